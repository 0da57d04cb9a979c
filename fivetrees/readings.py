"""Readings: the trees that a writer writes as a given text."""

from fivetrees.errors import InvalidText, TooLong
from fivetrees.finding import Finder
from fivetrees.limits import MOST_READ
from fivetrees.writers import check_writer


class PlaceMeasure:
    """Measures texts by the places (begin, end) at which they stand in a text."""

    def __init__(self, text):
        self._text = text

    def empty(self):
        """The places of the empty text."""
        return [(place, place) for place in range(len(self._text) + 1)]

    def longer(self, places, string):
        """The places with the string behind them, None if it does not stand there."""
        begin, end = places
        new = end + len(string)
        return (begin, new) if self._text[end:new] == string else None

    def followed(self, places, other):
        """The places with the other ones behind them."""
        return (places[0], other[1])

    def begin(self, places):
        """The first place."""
        return places[0]

    def end(self, places):
        """The place behind the last one."""
        return places[1]


def _inner(writer, text):
    """What stands between before and after, None if the text does not have them."""
    before, after = writer.before, writer.after
    if len(text) < len(before) + len(after) or not text.startswith(before) or not text.endswith(after):
        return None
    return text[len(before):len(text) - len(after)]


def _reading(writer, text, number):
    """The reading with this number, from 0 on, in the order of trees; None if there is none."""
    check_writer(writer)
    if not isinstance(text, str):
        raise InvalidText(text)
    if len(text) > MOST_READ:
        raise TooLong(len(text))
    inner = _inner(writer, text)
    if inner is None:
        return None
    finder = Finder(writer, PlaceMeasure(inner), number + 1)
    whole = (finder.grammar.whole, (0, len(inner)))
    going = True
    while going and len(finder.found_marks.get(whole, [])) <= number:
        going = finder.advance()
    ranks = finder.found_marks.get(whole, [])
    return finder.ranking.built(ranks[number]) if len(ranks) > number else None


def first_reading(writer, text):
    """The first tree that the writer writes as this text, None if there is none."""
    return _reading(writer, text, 0)


def second_reading(writer, text):
    """The second tree that the writer writes as this text, None if there is none."""
    return _reading(writer, text, 1)
