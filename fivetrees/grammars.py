"""Grammars: in which small steps a writer writes the trees of each pair (constructor, mode) that occurs."""

from fivetrees.ways import ways_of
from fivetrees.writing import rules_by_pair


def _layout(pieces, many):
    """The string ahead of all fields, and for each of so many fields (field, mode, string behind).

    Fields that are not written come last, with no mode.
    """
    strings = [""]
    fields = []
    for piece in pieces:
        if isinstance(piece, str):
            strings[-1] = strings[-1] + piece
        else:
            fields.append(piece)
            strings.append("")
    written = [field for field, mode in fields]
    for field in range(many):
        if field not in written:
            fields.append((field, None))
            strings.append("")
    steps = [(field, mode, string) for (field, mode), string in zip(fields, strings[1:])]
    return strings[0], tuple(steps)


def _split(choices):
    """The tops for the first field, those together behind which the same is left: pairs (tops, what is left)."""
    rests = {}
    for choice in choices:
        rests.setdefault(choice[0], []).append(choice[1:])
    found = {}
    for tops, rest in rests.items():
        found.setdefault(tuple(rest), []).extend(tops)
    return [(tuple(sorted(tops)), rest) for rest, tops in found.items()]


class Grammar:
    """The pairs (constructor, mode) that occur for a writer, also with no mode for fields not written.

    A want is a pair (tops, mode): what a field asks for. A node is a place within a rule: the number
    of its pair, and the steps (want, field, next node, string behind) of which one comes next; there
    are none where all fields have been passed. A start is a node with the string ahead of it.
    """

    def __init__(self, writer):
        schema = writer.schema
        self._schema = schema
        self._rules = rules_by_pair(writer.rules)
        self._numbers = {}
        self._wanted = {}
        self._known = {}
        self.pairs = []
        self.wants = []
        self.nodes = []
        self.starts = []
        self.whole = self._want(schema.of_kind(schema.root), writer.start)
        place = 0
        while place < len(self.pairs):
            self._open(place)
            place += 1

    def _want(self, tops, mode):
        """The number of this want, whose pairs occur."""
        if (tops, mode) not in self._wanted:
            self._wanted[(tops, mode)] = len(self.wants)
            self.wants.append((tops, mode))
            for name in tops:
                if (name, mode) not in self._numbers:
                    self._numbers[(name, mode)] = len(self.pairs)
                    self.pairs.append((name, mode))
        return self._wanted[(tops, mode)]

    def _open(self, number):
        """Take in what is written for the pair with this number."""
        name, mode = self.pairs[number]
        kinds = self._schema.constructor(name)[2]
        choices = {}
        for tops, pieces, _ in ways_of(self._schema, kinds, self._rules.get((mode, name), []), []):
            choices.setdefault(pieces, []).append(tops)
        for pieces, its_choices in choices.items():
            string, steps = _layout(pieces, len(kinds))
            ordered = [tuple([tops[step[0]] for step in steps]) for tops in its_choices]
            self.starts.append((self._node(number, steps, tuple(ordered)), string))

    def _node(self, number, steps, choices):
        """The number of the node from which these steps are left, with these choices of tops."""
        key = (number, steps, choices)
        if key not in self._known:
            found = []
            if steps:
                field, mode, string = steps[0]
                for tops, rest in _split(choices):
                    want = self._want(tops, mode)
                    found.append((want, field, self._node(number, steps[1:], rest), string))
            self._known[key] = len(self.nodes)
            self.nodes.append((number, tuple(found)))
        return self._known[key]
