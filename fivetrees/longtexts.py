"""Texts of any length, of which signs and parts are told without writing the whole."""

from fivetrees.checks import is_number
from fivetrees.errors import InvalidNumber
from fivetrees.limits import MOST_WRITTEN
from fivetrees.writers import check_root_tree, check_writer
from fivetrees.writing import lengths_of, parts_of, texts_of


def _signs_in(text, signs):
    return sum([sign in signs for sign in text])


class LongText:
    """The text that a writer writes for a tree of the root kind, however long."""

    def __init__(self, writer, tree):
        check_writer(writer)
        check_root_tree(writer, tree)
        parts = parts_of(writer.rules, tree.rows, writer.start)
        lengths = lengths_of(parts)
        top = (len(tree.rows) - 1, writer.start)
        self._writer = writer
        # Errors have an attribute of this name, so here it is no property either.
        self.tree = tree
        self._parts = parts
        self._lengths = lengths
        # Short texts are kept whole: through long ones alone, no part has to be looked for far down.
        self._texts = texts_of(parts, lengths, MOST_WRITTEN)
        self._whole = (writer.before, top, writer.after)
        self._length = len(writer.before) + lengths[top] + len(writer.after)

    @property
    def writer(self):
        """The writer."""
        return self._writer

    @property
    def length(self):
        """The number of signs."""
        return self._length

    def _length_of(self, part):
        return len(part) if isinstance(part, str) else self._lengths[part]

    def _cut(self, start, count):
        """So many signs from the start on, all of which are there."""
        pending = list(self._whole[::-1])
        found = []
        ahead, left = start, count
        while left > 0:
            part = pending.pop()
            length = self._length_of(part)
            if length <= ahead:
                ahead = ahead - length
            elif isinstance(part, str) or part in self._texts:
                text = part if isinstance(part, str) else self._texts[part]
                found.append(text[ahead:ahead + left])
                left = left - len(found[-1])
                ahead = 0
            else:
                for inner in self._parts[part][::-1]:
                    pending.append(inner)
        return "".join(found)

    def __getitem__(self, at):
        if not is_number(at, -self._length, self._length - 1):
            raise InvalidNumber(at)
        return self._cut(at if at >= 0 else self._length + at, 1)

    def __iter__(self):
        raise TypeError("a long text is not iterated over: ask for its pieces")

    def piece(self, start, count):
        """The part from a place on with so many signs."""
        if not is_number(start, 0, self._length):
            raise InvalidNumber(start)
        if not is_number(count, 0, min(MOST_WRITTEN, self._length - start)):
            raise InvalidNumber(count)
        return self._cut(start, count)

    def count(self, signs):
        """How many of the signs are in this string."""
        found = {}
        for pair, parts in self._parts.items():
            found[pair] = sum([_signs_in(part, signs) if isinstance(part, str) else found[part] for part in parts])
        before, top, after = self._whole
        return _signs_in(before, signs) + found[top] + _signs_in(after, signs)
