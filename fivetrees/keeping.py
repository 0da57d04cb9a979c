"""The kept trees of two writers."""

from fivetrees.errors import InvalidTree
from fivetrees.numbering import Numbering, five_numbers, told_rows
from fivetrees.searching import kept_trees
from fivetrees.states import start_states
from fivetrees.writers import check_own_tree, check_writers


def _is_word(value):
    return value is None or isinstance(value, str)


def _ordered(writer, other, states):
    """The states by the place of the constructor, then by the modes, None behind all of them."""
    modes, other_modes = writer.modes + (None,), other.modes + (None,)
    found = []
    for name in writer.schema.names:
        for mode in modes:
            for other_mode in other_modes:
                if (name, mode, other_mode) in states:
                    found.append((name, mode, other_mode))
    return tuple(found)


class Keeping:
    """For each state of two writers the trees whose numbers are no sums of those of earlier trees."""

    def __init__(self, writer, other):
        check_writers(writer, other)
        pairs = kept_trees(writer, other, start_states(writer, other))
        table = {}
        for state, tree in pairs:
            table[state] = table.get(state, ()) + (tree,)
        self._writer = writer
        self._other = other
        self._numbering = Numbering(writer, other)
        self._pairs = pairs
        self._table = table
        self._states = _ordered(writer, other, table)

    @property
    def writer(self):
        """The first writer."""
        return self._writer

    @property
    def other(self):
        """The second writer."""
        return self._other

    @property
    def base(self):
        """The base of the numbers of texts."""
        return self._numbering.base

    @property
    def states(self):
        """The states that occur."""
        return self._states

    def _check_state(self, state):
        if not isinstance(state, tuple) or not all([_is_word(word) for word in state]):
            raise InvalidTree(state)
        if state not in self._table:
            raise InvalidTree(state)

    def kept(self, state):
        """The trees that are kept in the state, in their order."""
        self._check_state(state)
        return self._table[state]

    def row(self, tree, state):
        """The five numbers of the tree in the state."""
        check_own_tree(self._writer, tree)
        self._check_state(state)
        if state[0] != tree.name:
            raise InvalidTree(state)
        one = told_rows(self._numbering, self._writer, tree.rows, state[1])
        other = told_rows(self._numbering, self._other, tree.rows, state[2])
        return five_numbers(one, other)

    def __len__(self):
        return len(self._pairs)
