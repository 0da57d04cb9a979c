"""Faces of texts: in which stands of a pattern they end, from each stand in which they can begin."""

from fivetrees.errors import TooManyFaces
from fivetrees.finding import Finder
from fivetrees.limits import MOST_FACES


def composed(one, other):
    """The face of a text with this face that has one with the other face behind it."""
    return tuple([other[stand] for stand in one])


class FaceMeasure:
    """Measures texts by their faces."""

    def __init__(self, pattern):
        self._pattern = pattern
        self._known = {}

    def empty(self):
        """The face of the empty text."""
        return [tuple(range(self._pattern.stands))]

    def longer(self, face, string):
        """The face with the string behind it."""
        if string not in self._known:
            self._known[string] = self._pattern.face(string)
        return composed(face, self._known[string])

    def followed(self, face, other):
        """The face with the other one behind it."""
        return composed(face, other)

    def begin(self, face):
        """Any face can stand behind any other."""
        return 0

    def end(self, face):
        """Any face can stand ahead of any other."""
        return 0


def found_faces(writer, pattern):
    """A search that has found the first tree for each constructor, mode and face."""
    finder = Finder(writer, FaceMeasure(pattern), 1)
    while finder.advance():
        if len(face_triples(finder)) > MOST_FACES:
            raise TooManyFaces(MOST_FACES)
    return finder


def face_triples(finder):
    """The triples (constructor, mode, face) of the trees that were found, where they are written."""
    found = [(*finder.grammar.pairs[pair], face) for pair, face in finder.found_pairs]
    return [triple for triple in found if triple[1] is not None]


def leads_to_good(writer, pattern, face):
    """Whether a text keeps the pattern that the writer writes around a part with this face."""
    before, after = pattern.face(writer.before), pattern.face(writer.after)
    return after[face[before[0]]] in pattern.good
