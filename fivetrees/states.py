"""States of two writers: which ones occur, and what leads from one to those of the fields (point 14)."""

from fivetrees.ways import field_modes, ways_of
from fivetrees.writing import rules_by_pair


def start_states(writer, other):
    """The states of the constructors of the root kind with the two start modes."""
    schema = writer.schema
    return tuple([(name, writer.start, other.start) for name in schema.of_kind(schema.root)])


def product_of(lists):
    """How many choices there are of one from each of the lists."""
    found = 1
    for one in lists:
        found = found * len(one)
    return found


class StateGraph:
    """The states that occur from some on, and the ways from each one to those of its fields.

    The states are found one after the other by `open_next`. A want is the numbers of the states that a
    field can have on one way: all with the same modes. A way is (number of the state, numbers of the
    fields' wants, pieces, pieces of the other).
    """

    def __init__(self, writer, other, starts):
        self._schema = writer.schema
        self._rules = rules_by_pair(writer.rules)
        self._others = rules_by_pair(other.rules)
        self._numbers = {}
        self._wanted = {}
        self.found_states = []
        self.wants = []
        self.ways = []
        self._next = 0
        for state in starts:
            self.number(state)

    def open_next(self):
        """Take in the ways of the next state; how many choices of tops they have, None if there is no state."""
        if self._next == len(self.found_states):
            return None
        self._next = self._next + 1
        return self._open(self._next - 1)

    def number(self, state):
        """The number of the state, which occurs."""
        if state not in self._numbers:
            self._numbers[state] = len(self.found_states)
            self.found_states.append(state)
        return self._numbers[state]

    def _want(self, tops, mode, other):
        want = (tops, mode, other)
        if want not in self._wanted:
            self._wanted[want] = len(self.wants)
            self.wants.append(tuple([self.number((name, mode, other)) for name in tops]))
        return self._wanted[want]

    def _open(self, place):
        """Take in the ways of the state; how many choices of tops they have."""
        name, mode, other = self.found_states[place]
        kinds = self._schema.constructor(name)[2]
        pairs, others = self._rules.get((mode, name), []), self._others.get((other, name), [])
        many = 0
        for choice, pieces, other_pieces in ways_of(self._schema, kinds, pairs, others):
            modes, other_modes = field_modes(pieces, len(kinds)), field_modes(other_pieces, len(kinds))
            fields = [self._want(*want) for want in zip(choice, modes, other_modes)]
            self.ways.append((place, tuple(fields), pieces, other_pieces))
            many = many + product_of(choice)
        return many
