"""Certificates for what was decided: by them the checker need not look for anything."""

from fivetrees.deciding import constant_text, first_unlike
from fivetrees.faces import face_triples, found_faces
from fivetrees.grammars import Grammar
from fivetrees.numbering import five_numbers
from fivetrees.patterns import first_breaking
from fivetrees.readings import first_reading
from fivetrees.searching import searched
from fivetrees.spans import Span
from fivetrees.states import start_states
from fivetrees.trees import Tree

# As many as there are numbers of a tree, and trees in a state at the most.
UNITS = ((1, 0, 0, 0, 0), (0, 1, 0, 0, 0), (0, 0, 1, 0, 0), (0, 0, 0, 1, 0), (0, 0, 0, 0, 1))


def _span_of(held):
    """The span of the five numbers of the kept trees; behind them stands how often each tree is taken."""
    span = Span()
    for entry, unit in zip(held, UNITS):
        span.widen(five_numbers(entry[2], entry[3]) + unit)
    return span


def _choices(search, fields):
    """All choices of kept trees for the fields' wants: pairs (choice, what is held for the fields)."""
    states = search.graph.found_states
    found = [((), ())]
    for want in fields:
        options = []
        for state in search.graph.wants[want]:
            for index, entry in enumerate(search.held[state]):
                options.append(((states[state][0], index), entry))
        found = [((*choice, pair), (*held, entry)) for choice, held in found for pair, entry in options]
    return found


def _sums(search):
    """For each join the triple (state, choice, numbers)."""
    spans = [_span_of(held) for held in search.held]
    found = []
    for state, fields, pieces, others in search.graph.ways:
        many = len(search.held[state])
        for choice, held in _choices(search, fields):
            one = search.numbering.of_pieces(pieces, held, 2)
            other = search.numbering.of_pieces(others, held, 3)
            numbers = spans[state].multiples(five_numbers(one, other), len(UNITS))
            found.append((search.graph.found_states[state], choice, tuple(numbers[:many])))
    return tuple(found)


def certify_alike(writer, other):
    """The claim that the writers write every tree alike, or that they do not, with its certificate."""
    tree = first_unlike(writer, other)
    if tree is not None:
        return (("unlike", writer.form, other.form), tree.rows)
    search = searched(writer, other, start_states(writer, other))
    lists = []
    for state, held in zip(search.graph.found_states, search.held):
        lists.append((state, tuple([search.ranking.built(entry[0]).rows for entry in held])))
    return (("alike", writer.form, other.form), (tuple(lists), _sums(search)))


def _some_trees(schema):
    """A tree for each constructor."""
    known = {}
    found = {}
    # Each round finds a tree for a further constructor at least.
    for _ in range(len(schema)):
        for name, kind, kinds in schema.constructors:
            if all([field in known for field in kinds]):
                fields = [known[field] for field in kinds]
                found[name] = Tree(schema, name, *fields)
                known.setdefault(kind, found[name])
    return found


def certify_constant(writer):
    """The claim that the writer writes all trees as one text, with its certificate; None if it does not."""
    text = constant_text(writer)
    if text is None:
        return None
    # Where the whole text is always the same, so is each of its parts: that of any tree will do.
    trees_by_name = _some_trees(writer.schema)
    triples = []
    for name, mode in Grammar(writer).pairs:
        if mode is not None:
            triples.append((name, mode, writer.written(trees_by_name[name], mode)))
    return (("constant", writer.form, text), tuple(triples))


def certify_pattern(writer, pattern):
    """The claim that all texts keep the pattern, or that not all do, with its certificate."""
    tree = first_breaking(writer, pattern)
    if tree is not None:
        return (("not always", writer.form, pattern.form), tree.rows)
    triples = face_triples(found_faces(writer, pattern))
    return (("always", writer.form, pattern.form), tuple(triples))


def certify_reading(writer, text):
    """The claim that the first reading is written as the text, with its certificate; None if there is none."""
    tree = first_reading(writer, text)
    if tree is None:
        return None
    return (("reading", writer.form, text), tree.rows)
