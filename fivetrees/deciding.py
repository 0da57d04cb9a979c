"""Decides for every tree: whether two writers write it alike, whether one writes all as one text.

The texts of the kept trees tell it: each question asks whether some sum over the five numbers is 0
for all trees, and the first tree for which it is not is kept.
"""

from fivetrees.errors import TooLong
from fivetrees.limits import MOST_WRITTEN
from fivetrees.searching import kept_trees
from fivetrees.states import start_states
from fivetrees.writers import check_writers
from fivetrees.writing import text_of


def _text(writer, tree):
    # With before and after, the text of a kept tree can be longer than what the writer returns.
    return writer.before + text_of(writer.rules, tree.rows, writer.start) + writer.after


def enough_trees(writer, other):
    """The kept trees of the root kind: writers that agree on these agree on every tree."""
    check_writers(writer, other)
    starts = start_states(writer, other)
    return tuple([tree for state, tree in kept_trees(writer, other, starts) if state in starts])


def first_unlike(writer, other):
    """The first tree that they write unlike, None if there is none."""
    for tree in enough_trees(writer, other):
        if _text(writer, tree) != _text(other, tree):
            return tree
    return None


def alike(writer, other):
    """Whether they write every tree alike."""
    return first_unlike(writer, other) is None


def first_unequal(writer, other):
    """The first tree whose texts are not of the same length, None if there is none."""
    for tree in enough_trees(writer, other):
        if len(_text(writer, tree)) != len(_text(other, tree)):
            return tree
    return None


def _told_trees(writer):
    """The kept trees of the writer beside itself, each with its text."""
    found = [(tree, _text(writer, tree)) for tree in enough_trees(writer, writer)]
    # The first tree of all is kept, and comes first.
    length = len(found[0][1])
    if length > MOST_WRITTEN:
        raise TooLong(length)
    return found


def first_change(writer):
    """The first tree whose text is not that of the first tree of the root kind, None if there is none."""
    pairs = _told_trees(writer)
    for tree, text in pairs:
        if text != pairs[0][1]:
            return tree
    return None


def constant_text(writer):
    """The text as which the writer writes all trees, None if there is no such text."""
    pairs = _told_trees(writer)
    texts = [text for tree, text in pairs]
    return texts[0] if all([text == texts[0] for text in texts]) else None
