"""The kept trees of two writers."""

from fivetrees.errors import InvalidTree, TooLong
from fivetrees.limits import MOST_WRITTEN
from fivetrees.numbering import EMPTY, base_of, digits_of, five_numbers, told_parts
from fivetrees.searching import kept_trees
from fivetrees.states import start_states
from fivetrees.writers import check_own_tree, check_writers
from fivetrees.writing import lengths_of, parts_of


def _is_word(value):
    return value is None or isinstance(value, str)


def _ordered(writer, other, states):
    """The states by the place of the constructor, then by the modes, None behind all of them."""
    modes, other_modes = writer.modes + (None,), other.modes + (None,)
    found = []
    for name in writer.schema.names:
        for mode in modes:
            for other_mode in other_modes:
                if (name, mode, other_mode) in states:
                    found.append((name, mode, other_mode))
    return tuple(found)


def _told_tree(writer, tree, mode, digits):
    """The triple of the text of the tree in the mode, which may be None."""
    if mode is None:
        return EMPTY
    parts = parts_of(writer.rules, tree.rows, mode)
    top = (len(tree.rows) - 1, mode)
    length = lengths_of(parts)[top]
    if length > MOST_WRITTEN:
        raise TooLong(length)
    return told_parts(parts, digits)[top]


class Keeping:
    """For each state of two writers the trees whose numbers are no sums of those of earlier trees."""

    def __init__(self, writer, other):
        check_writers(writer, other)
        pairs = kept_trees(writer, other, start_states(writer, other))
        table = {}
        for state, tree in pairs:
            table[state] = table.get(state, ()) + (tree,)
        self._writer = writer
        self._other = other
        self._digits = digits_of(writer, other)
        self._base = base_of(self._digits)
        self._pairs = pairs
        self._table = table
        self._states = _ordered(writer, other, table)

    @property
    def writer(self):
        """The first writer."""
        return self._writer

    @property
    def other(self):
        """The second writer."""
        return self._other

    @property
    def base(self):
        """The base of the numbers of texts."""
        return self._base

    @property
    def states(self):
        """The states that occur."""
        return self._states

    def _check_state(self, state):
        if not isinstance(state, tuple) or not all([_is_word(word) for word in state]):
            raise InvalidTree(state)
        if state not in self._table:
            raise InvalidTree(state)

    def kept(self, state):
        """The trees that are kept in the state, in their order."""
        self._check_state(state)
        return self._table[state]

    def row(self, tree, state):
        """The five numbers of the tree in the state."""
        check_own_tree(self._writer, tree)
        self._check_state(state)
        if state[0] != tree.name:
            raise InvalidTree(state)
        one = _told_tree(self._writer, tree, state[1], self._digits)
        other = _told_tree(self._other, tree, state[2], self._digits)
        return five_numbers(one, other)

    def __len__(self):
        return len(self._pairs)
