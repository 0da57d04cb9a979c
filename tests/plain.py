"""The same things done plainly: trees are nested tuples (constructor, fields), and nothing is shared."""

import itertools
from fractions import Fraction

from fivetrees.trees import Tree


def size(tree):
    return 1 + sum(size(field) for field in tree[1])


def depth(tree):
    return 1 + max([depth(field) for field in tree[1]], default=0)


def order(schema, tree):
    """A key by which trees are in their order."""
    return (size(tree), schema.place(tree[0]), tuple(order(schema, field) for field in tree[1]))


def all_trees(schema, kind, most):
    """All trees of the kind with at most this size, in their order."""
    by_size = {one: {} for one in schema.kinds}
    for total in range(1, most + 1):
        for one in schema.kinds:
            by_size[one][total] = []
        for name, its_kind, fields in schema.constructors:
            for row in _fields(by_size, fields, total - 1):
                by_size[its_kind][total].append((name, row))
    found = [tree for total in range(1, most + 1) for tree in by_size[kind][total]]
    return sorted(found, key=lambda tree: order(schema, tree))


def _fields(by_size, kinds, total):
    if not kinds:
        return [()] if total == 0 else []
    found = []
    for first in range(1, total + 1):
        for tree in by_size[kinds[0]].get(first, []):
            found += [(tree, *row) for row in _fields(by_size, kinds[1:], total - first)]
    return found


def rows(tree):
    """The rows of the tree, and where each tree stands in them."""
    found = []

    def take(one):
        numbers = tuple(take(field) for field in one[1])
        if (one[0], numbers) not in found:
            found.append((one[0], numbers))
        return found.index((one[0], numbers))

    take(tree)
    return tuple(found)


def text(tree):
    return "; ".join(" ".join([name, *map(str, numbers)]) for name, numbers in rows(tree))


def made(schema, tree):
    """The Tree, made from inside."""
    return Tree(schema, tree[0], *[made(schema, field) for field in tree[1]])


def plain(tree):
    """The nested tuples of a Tree."""
    return (tree.name, tuple(plain(field) for field in tree.fields))


def paths(tree):
    """All paths in the tree."""
    return [()] + [(k, *rest) for k, field in enumerate(tree[1]) for rest in paths(field)]


def at(tree, path):
    return at(tree[1][path[0]], path[1:]) if path else tree


def put(tree, path, other):
    if not path:
        return other
    fields = list(tree[1])
    fields[path[0]] = put(fields[path[0]], path[1:], other)
    return (tree[0], tuple(fields))


def pieces(rules, tree, mode):
    """The pieces of the first rule of the mode that fits."""
    for its_mode, name, looks, found in rules:
        if (its_mode, name) == (mode, tree[0]):
            if all(look is None or field[0] in look for look, field in zip(looks, tree[1])):
                return found
    raise AssertionError("no rule")


def write(rules, tree, mode):
    """The text of the tree in the mode; none without a mode."""
    if mode is None:
        return ""
    return "".join(
        piece if isinstance(piece, str) else write(rules, tree[1][piece[0]], piece[1])
        for piece in pieces(rules, tree, mode)
    )


def whole(writer, tree):
    """The text that a writer writes for a tree of the root kind."""
    return writer.before + write(writer.rules, tree, writer.start) + writer.after


def field_modes(rules, tree, mode):
    found = [None] * len(tree[1])
    if mode is not None:
        for piece in pieces(rules, tree, mode):
            if not isinstance(piece, str):
                found[piece[0]] = piece[1]
    return found


def digits(writer, other):
    strings = [string for one in (writer, other) for string in (one.before, one.after)]
    strings += [piece for one in (writer, other) for rule in one.rules for piece in rule[3] if isinstance(piece, str)]
    return {sign: k + 1 for k, sign in enumerate(sorted(set("".join(strings))))}


def five(writer, other, tree, state):
    """The five numbers of the tree in the state."""
    numbers = digits(writer, other)
    base = max(2, len(numbers) + 1)
    found = [1]
    for rules, mode in ((writer.rules, state[1]), (other.rules, state[2])):
        written = write(rules, tree, mode)
        found += [base ** len(written), sum(numbers[sign] * base ** k for k, sign in enumerate(reversed(written)))]
    return tuple(found)


class Sums:
    """Sums of rational multiples of rows, by fractions."""

    def __init__(self):
        self.rows = []

    def widen(self, row):
        """Take the row in; whether it was outside."""
        rest = [Fraction(number) for number in row]
        for place, known in self.rows:
            rest = [number - rest[place] * other for number, other in zip(rest, known)]
        for place, number in enumerate(rest):
            if number != 0:
                self.rows.append((place, [other / number for other in rest]))
                return True
        return False


def kept(writer, other, starts, most):
    """By a look at all trees up to a size: the states that occur in them, and the trees kept in each."""
    schema = writer.schema
    known = {kind: all_trees(schema, kind, most) for kind in schema.kinds}
    waiting, found = list(starts), {}
    while waiting:
        state = waiting.pop()
        if state in found:
            continue
        found[state] = []
        sums = Sums()
        for tree in known[schema.constructor(state[0])[1]]:
            if tree[0] == state[0]:
                if sums.widen(five(writer, other, tree, state)):
                    found[state].append(tree)
                ones, others = field_modes(writer.rules, tree, state[1]), field_modes(other.rules, tree, state[2])
                waiting += [(field[0], *modes) for field, *modes in zip(tree[1], ones, others)]
    return found


def root_states(writer, other):
    return [(name, writer.start, other.start) for name in writer.schema.of_kind(writer.schema.root)]


def joins(writer, other, starts, most):
    """How many joins there are, and the size of the greatest kept tree, by a look at all trees up to a size."""
    schema = writer.schema
    found = kept(writer, other, starts, most)
    many = 0
    for state in found:
        fields = schema.constructor(state[0])[2]
        for tops in itertools.product(*[schema.of_kind(kind) for kind in fields]):
            tree = (state[0], tuple((top, ()) for top in tops))
            ones, others = field_modes(writer.rules, tree, state[1]), field_modes(other.rules, tree, state[2])
            product = 1
            for below in zip(tops, ones, others):
                product *= len(found[below])
            many += product
    return many, max(size(tree) for trees in found.values() for tree in trees)
