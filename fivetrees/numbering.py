"""The numbers of texts (point 13), beside their lengths, as triples (length, power, worth).

The power is the base to the power of the length, the worth the text read as a number in this base.
"""

from fivetrees.errors import TooLong
from fivetrees.limits import MOST_WRITTEN
from fivetrees.writing import lengths_of, parts_of

EMPTY = (0, 1, 0)


def _strings_of(writer):
    pieces = [piece for rule in writer.rules for piece in rule[3] if isinstance(piece, str)]
    return [writer.before, writer.after, *pieces]


def joined(one, other):
    """The triple of the one's text with the other's behind it."""
    return (one[0] + other[0], one[1] * other[1], one[2] * other[1] + other[2])


def five_numbers(one, other):
    """The five numbers of a tree whose two texts have these triples."""
    return (1, one[1], one[2], other[1], other[2])


class Numbering:
    """Numbers for the signs of two writers, from 1 on, ascending."""

    def __init__(self, writer, other):
        signs = sorted(set("".join(_strings_of(writer) + _strings_of(other))))
        self._digits = {sign: number for number, sign in enumerate(signs, start=1)}
        self._base = max(2, len(signs) + 1)
        self._known = {}

    @property
    def base(self):
        """The base of the numbers of texts."""
        return self._base

    def of_string(self, string):
        """The triple of a string that the writers write."""
        if string not in self._known:
            found = EMPTY
            for sign in string:
                found = joined(found, (1, self._base, self._digits[sign]))
            self._known[string] = found
        return self._known[string]

    def of_pieces(self, pieces, held, side):
        """The triple of what pieces write, where these rows of triples are held for the fields."""
        found = EMPTY
        for piece in pieces:
            found = joined(found, self.of_string(piece) if isinstance(piece, str) else held[piece[0]][side])
        return found

    def of_parts(self, parts):
        """For each pair (row, mode) the triple of its text."""
        found = {}
        for pair, its_parts in parts.items():
            whole = EMPTY
            for part in its_parts:
                whole = joined(whole, self.of_string(part) if isinstance(part, str) else found[part])
            found[pair] = whole
        return found

    def of_whole(self, writer, text):
        """The triple of the text with this triple, with before and after."""
        return joined(joined(self.of_string(writer.before), text), self.of_string(writer.after))


def told_rows(numbering, writer, rows, mode):
    """The triple of the text of the rows in the mode, which may be None."""
    if mode is None:
        return EMPTY
    parts = parts_of(writer.rules, rows, mode)
    top = (len(rows) - 1, mode)
    length = lengths_of(parts)[top]
    if length > MOST_WRITTEN:
        raise TooLong(length)
    return numbering.of_parts(parts)[top]
