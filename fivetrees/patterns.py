"""Patterns: what the signs of a text may be, told by stands and moves."""

from fivetrees.checks import are_signs, is_number
from fivetrees.errors import InvalidGood, InvalidMoves, InvalidNumber, InvalidString, InvalidText, NotAPattern
from fivetrees.faces import found_faces, leads_to_good
from fivetrees.limits import MOST_MOVES, MOST_STANDS
from fivetrees.rules import is_string_within
from fivetrees.writers import check_writer

LONGEST_WITHOUT = 4


def _check_good(stands, good):
    if not isinstance(good, tuple):
        raise InvalidGood(None)
    known = []
    for index, stand in enumerate(good):
        if not is_number(stand, 0, stands - 1) or stand in known:
            raise InvalidGood(index)
        known.append(stand)


def _are_different_signs(value):
    return are_signs(value) and value != "" and len(set(value)) == len(value)


def _is_move(stands, value):
    if not isinstance(value, tuple) or len(value) != 3:
        return False
    stand, signs, target = value
    if not is_number(stand, 0, stands - 1) or not is_number(target, 0, stands - 1):
        return False
    return signs is None or _are_different_signs(signs)


def _check_moves(stands, moves):
    if len(moves) > MOST_MOVES:
        raise InvalidMoves(None)
    for index, move in enumerate(moves):
        if not _is_move(stands, move):
            raise InvalidMoves(index)


def _first_move(moves, stand, sign):
    """Where the first move from the stand leads that has the sign; None stands for all other signs."""
    for start, signs, target in moves:
        if start == stand and (signs is None or (sign is not None and sign in signs)):
            return target
    return stand


def _table_of(stands, moves):
    """For each stand where each sign of a move leads, and where None leads, for all other signs."""
    strings = [move[1] for move in moves if move[1] is not None]
    signs = sorted(set("".join(strings)))
    return [{sign: _first_move(moves, stand, sign) for sign in [*signs, None]} for stand in range(stands)]


def _reached(text, seen):
    """How many signs of the text, from its begin on, are the last ones that were seen: the most that are."""
    many = len(seen)
    while not seen.endswith(text[:many]):
        many = many - 1
    return many


def _moves_without(text):
    """The moves that tell how much of the text stands at the end, and stay where all of it stood once."""
    moves = []
    for stand in range(len(text)):
        for sign in sorted(set(text)):
            moves.append((stand, sign, _reached(text, text[:stand] + sign)))
        moves.append((stand, None, 0))
    return tuple(moves)


class Pattern:
    """One to five stands of which some are good, and the moves between them."""

    def __init__(self, stands, good, *moves):
        if not is_number(stands, 1, MOST_STANDS):
            raise InvalidNumber(stands)
        _check_good(stands, good)
        _check_moves(stands, moves)
        self._stands = stands
        self._good = tuple(sorted(good))
        self._moves = moves
        self._form = (stands, self._good, moves)
        self._table = _table_of(stands, moves)

    @staticmethod
    def without(text):
        """A pattern that a text keeps exactly if this one does not stand anywhere in it."""
        if not is_string_within(text, 1, LONGEST_WITHOUT):
            raise InvalidString(text)
        moves = _moves_without(text)
        return Pattern(len(text) + 1, tuple(range(len(text))), *moves)

    @property
    def stands(self):
        """The number of stands."""
        return self._stands

    @property
    def good(self):
        """The good stands, ascending."""
        return self._good

    @property
    def moves(self):
        """The moves (stand, signs, stand)."""
        return self._moves

    @property
    def form(self):
        """The stands, the good ones, and the moves."""
        return self._form

    def keeps(self, text):
        """Whether the text keeps the pattern."""
        return self.face(text)[0] in self._good

    def face(self, text):
        """For each stand the stand behind the text that is begun there."""
        if not isinstance(text, str):
            raise InvalidText(text)
        return tuple([self._behind(stand, text) for stand in range(self._stands)])

    def _behind(self, stand, text):
        for sign in text:
            targets = self._table[stand]
            stand = targets[sign] if sign in targets else targets[None]
        return stand

    def __invert__(self):
        good = tuple([stand for stand in range(self._stands) if stand not in self._good])
        return Pattern(self._stands, good, *self._moves)

    def __eq__(self, other):
        return isinstance(other, Pattern) and self._form == other._form


def check_pattern(pattern):
    """Refuse what is no Pattern."""
    if not isinstance(pattern, Pattern):
        raise NotAPattern(pattern)


def _first(writer, pattern, keeping):
    """The first tree whose text keeps the pattern, or, if it is not to keep it, does not."""
    check_writer(writer)
    check_pattern(pattern)
    finder = found_faces(writer, pattern)
    ranks = []
    for want, face in finder.found_marks:
        if want == finder.grammar.whole and leads_to_good(writer, pattern, face) == keeping:
            ranks.append(finder.found_marks[(want, face)][0])
    return finder.ranking.built(min(ranks)) if ranks else None


def first_keeping(writer, pattern):
    """The first tree whose text keeps the pattern, None if there is none."""
    return _first(writer, pattern, True)


def first_breaking(writer, pattern):
    """The first tree whose text does not keep the pattern, None if there is none."""
    return _first(writer, pattern, False)


def always(writer, pattern):
    """Whether all texts that the writer writes keep the pattern."""
    return first_breaking(writer, pattern) is None


def never(writer, pattern):
    """Whether no text that the writer writes keeps the pattern."""
    return first_keeping(writer, pattern) is None
