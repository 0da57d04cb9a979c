"""The errors of the whole program: three families, each behind one of Python's own errors.

Classes that look alike share no class between them and the base of their family, because an error
is an instance of its own class and of that base, and of no other error class of the program.
"""


class TreeError(ValueError):
    """What was passed is not what was asked for."""


class StateError(LookupError):
    """What was passed is right by itself, but does not go together with the rest."""


class LimitError(ArithmeticError):
    """What was asked for is larger than the program goes."""


class NotASchema(TreeError):
    """The value is not a Schema."""

    def __init__(self, value):
        self.value = value


class NotATree(TreeError):
    """The value is not a Tree."""

    def __init__(self, value):
        self.value = value


class NotAWriter(TreeError):
    """The value is not a Writer."""

    def __init__(self, value):
        self.value = value


class NotAPattern(TreeError):
    """The value is not a Pattern."""

    def __init__(self, value):
        self.value = value


class UnknownKind(TreeError):
    """The value is not a kind of the schema."""

    def __init__(self, value):
        self.value = value


class UnknownConstructor(TreeError):
    """The value is not the name of a constructor that is possible here."""

    def __init__(self, value):
        self.value = value


class UnknownMode(TreeError):
    """The value is not a mode that is needed with the kind."""

    def __init__(self, value):
        self.value = value


class InvalidText(TreeError):
    """The value is not a text, or not the text of what was asked for."""

    def __init__(self, value):
        self.value = value


class InvalidPath(TreeError):
    """The value is not a path in the tree."""

    def __init__(self, value):
        self.value = value


class InvalidTree(TreeError):
    """The value is not a tree, or not a state, that is possible here."""

    def __init__(self, value):
        self.value = value


class InvalidNumber(TreeError):
    """The value is not a number that is possible here."""

    def __init__(self, value):
        self.value = value


class InvalidStart(TreeError):
    """The value is not a mode to start with."""

    def __init__(self, value):
        self.value = value


class InvalidString(TreeError):
    """The value is not a string that is possible here."""

    def __init__(self, value):
        self.value = value


class InvalidLine(TreeError):
    """The value is not a line that the console knows."""

    def __init__(self, value):
        self.value = value


class InvalidKinds(TreeError):
    """The kinds are wrong, the one at the index first."""

    def __init__(self, index):
        self.index = index


class InvalidConstructors(TreeError):
    """The constructors are wrong, the one at the index first."""

    def __init__(self, index):
        self.index = index


class InvalidFields(TreeError):
    """The fields are wrong, the one at the index first."""

    def __init__(self, index):
        self.index = index


class InvalidRows(TreeError):
    """The rows are wrong, the one at the index first."""

    def __init__(self, index):
        self.index = index


class InvalidRules(TreeError):
    """The rules are wrong, the one at the index first."""

    def __init__(self, index):
        self.index = index


class InvalidSigns(TreeError):
    """The pairs of signs are wrong, the one at the index first."""

    def __init__(self, index):
        self.index = index


class InvalidGood(TreeError):
    """The good stands are wrong, the one at the index first."""

    def __init__(self, index):
        self.index = index


class InvalidMoves(TreeError):
    """The moves are wrong, the one at the index first."""

    def __init__(self, index):
        self.index = index


class InvalidDeed(TreeError):
    """A deed is wrong: the one at the index."""

    def __init__(self, index):
        self.index = index


class InvalidWriters(TreeError):
    """The writers are wrong, the one at the index first."""

    def __init__(self, index):
        self.index = index


class EmptyKind(StateError):
    """The kind has no tree."""

    def __init__(self, kind):
        self.kind = kind


class MissingRule(StateError):
    """The mode has no rule without looks for the constructor of this name."""

    def __init__(self, mode, name):
        self.mode = mode
        self.name = name


class Unlike(StateError):
    """Two writers write the tree unlike."""

    def __init__(self, tree):
        self.tree = tree


class Refused(StateError):
    """The guard refuses the deed: the tree would be written otherwise."""

    def __init__(self, deed, tree):
        self.deed = deed
        self.tree = tree


class OtherSchema(StateError):
    """The arguments are not of equal schemas."""


class NothingToUndo(StateError):
    """No change is left that could be taken back."""


class Busy(StateError):
    """The workshop is in the middle of its deeds."""


class TooManyRows(LimitError):
    """A tree would have more rows than the limit."""

    def __init__(self, limit):
        self.limit = limit


class TooManyJoins(LimitError):
    """There are more joins than the limit."""

    def __init__(self, limit):
        self.limit = limit


class TooManyFaces(LimitError):
    """There are more faces than the limit."""

    def __init__(self, limit):
        self.limit = limit


class TooManyDeeds(LimitError):
    """The log has as many deeds as the limit already."""

    def __init__(self, limit):
        self.limit = limit


class TooLong(LimitError):
    """A text is too long; its length was found to be this."""

    def __init__(self, found):
        self.found = found
