"""Sheets: trees that change, with their texts."""

from fivetrees.errors import NothingToUndo
from fivetrees.writers import check_root_tree, check_writer, whole_text


def _same_ahead(one, other):
    """How many signs are the same in both texts, from the begin on."""
    most = min(len(one), len(other))
    many = 0
    while many < most and one[many] == other[many]:
        many += 1
    return many


def _patch(old, new):
    """The place from which on the texts differ, how many signs of the old one give way, and to what."""
    place = _same_ahead(old, new)
    behind = _same_ahead(old[place:][::-1], new[place:][::-1])
    return (place, len(old) - place - behind, new[place:len(new) - behind])


class Sheet:
    """A tree of the root kind that changes, and the text that a writer writes for it."""

    def __init__(self, writer, tree):
        check_writer(writer)
        check_root_tree(writer, tree)
        self._writer = writer
        self._text = whole_text(writer, tree)
        # Errors have an attribute of this name, so here it is no property either.
        self.tree = tree
        self._past = []

    @property
    def writer(self):
        """The writer."""
        return self._writer

    @property
    def text(self):
        """The text of the tree."""
        return self._text

    def __getitem__(self, at):
        return self.tree[at]

    def __iter__(self):
        raise TypeError("a sheet is not iterated over: ask for its tree")

    def __setitem__(self, at, worth):
        tree = self.tree.put(at, worth)
        text = whole_text(self._writer, tree)
        self._past.append((self.tree, self._text))
        self.tree = tree
        self._text = text

    def undo(self):
        """Take back the last change."""
        if not self._past:
            raise NothingToUndo()
        self.tree, self._text = self._past.pop()

    def __len__(self):
        return len(self._past)


def set_tree(sheet, path, other):
    """Put the other tree at the path; the patch (place, count, text) that makes the new text of the old one."""
    old = sheet.text
    sheet[path] = other
    return _patch(old, sheet.text)
