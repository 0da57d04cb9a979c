"""Sums of rational multiples of rows of integers."""

from math import gcd


def _plain(rows):
    """The rows without what divides all their numbers."""
    common = 0
    for row in rows:
        for number in row:
            common = gcd(common, number)
    return [[entry // common for entry in line] for line in rows]


class Span:
    """All sums of rational multiples of some rows of integers, all of one length.

    The lines are rows with the same sums: each has a place of its own where it has the scale, and
    where the other lines have 0. So the multiples that a sum needs can be read off it.
    """

    def __init__(self):
        self._scale = 1
        self._places = []
        self._lines = []

    def _rest(self, row):
        """What is left of the row, times the scale, without the multiples of the lines that fit."""
        places, lines = self._places, self._lines
        rest = []
        for at, number in enumerate(row):
            if at in places:
                rest.append(0)
            else:
                fitting = sum([row[place] * line[at] for place, line in zip(places, lines)])
                rest.append(self._scale * number - fitting)
        return rest

    def widen(self, row):
        """Take the row in; whether it was outside."""
        rest = self._rest(row)
        at = 0
        while at < len(rest) and rest[at] == 0:
            at += 1
        if at == len(rest):
            return False
        head = rest[at]
        lines = [[head * old - line[at] * new for old, new in zip(line, rest)] for line in self._lines]
        lines.append([self._scale * number for number in rest])
        # The new scale stands among the numbers of the lines, so what divides these divides it.
        self._lines = _plain(lines)
        self._places = self._places + [at]
        self._scale = self._lines[-1][at]
        return True

    def multiples(self, row, start):
        """For a sum of multiples of the lines: what these multiples make of the numbers from the start on.

        The row need not have these numbers; each one that is found is a pair (over, under).
        """
        sign = 1 if self._scale > 0 else -1
        found = []
        for at in range(start, len(self._lines[0])):
            over = sum([row[place] * line[at] for place, line in zip(self._places, self._lines)])
            common = sign * gcd(over, self._scale)
            found.append((over // common, self._scale // common))
        return found
