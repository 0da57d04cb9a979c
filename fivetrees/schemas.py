"""Schemas: the kinds and constructors of which trees are made."""

from fivetrees.errors import EmptyKind, InvalidConstructors, InvalidKinds, InvalidText
from fivetrees.errors import UnknownConstructor, UnknownKind
from fivetrees.limits import MOST_CONSTRUCTORS, MOST_FIELDS, MOST_KINDS

LETTERS = "abcdefghijklmnopqrstuvwxyz"
NAME_SIGNS = "abcdefghijklmnopqrstuvwxyz0123456789"
LONGEST_NAME = 8


def is_name(value):
    """Whether any value is a name."""
    if not isinstance(value, str) or not 1 <= len(value) <= LONGEST_NAME:
        return False
    return value[0] in LETTERS and all([sign in NAME_SIGNS for sign in value])


def _is_one_of(value, names):
    # A value that is no string could claim to equal one, so strings alone are compared.
    return isinstance(value, str) and value in names


def _check_kinds(kinds):
    if not isinstance(kinds, tuple) or not 1 <= len(kinds) <= MOST_KINDS:
        raise InvalidKinds(None)
    for index, kind in enumerate(kinds):
        if not is_name(kind) or kind in kinds[:index]:
            raise InvalidKinds(index)


def _is_constructor(value, kinds):
    if not isinstance(value, tuple) or len(value) != 3:
        return False
    name, kind, fields = value
    if not is_name(name) or not _is_one_of(kind, kinds):
        return False
    if not isinstance(fields, tuple) or len(fields) > MOST_FIELDS:
        return False
    return all([_is_one_of(field, kinds) for field in fields])


def _check_constructors(constructors, kinds):
    if not isinstance(constructors, tuple) or not 1 <= len(constructors) <= MOST_CONSTRUCTORS:
        raise InvalidConstructors(None)
    names = []
    for index, constructor in enumerate(constructors):
        if not _is_constructor(constructor, kinds) or constructor[0] in names:
            raise InvalidConstructors(index)
        names.append(constructor[0])


def _check_trees(kinds, constructors):
    full = []
    # Each round finds a further kind that has a tree, or none is left to be found: as many rounds
    # as there are kinds are enough.
    for _ in range(len(kinds)):
        for constructor in constructors:
            kind, fields = constructor[1], constructor[2]
            if kind not in full and all([field in full for field in fields]):
                full.append(kind)
    for kind in kinds:
        if kind not in full:
            raise EmptyKind(kind)


def _parts(text):
    kinds = []
    constructors = []
    for line in text.split("\n"):
        # Blanks that are doubled, or stand at an end, leave empty words, which are no names.
        words = line.split(" ")
        if words[0] == "kind" and len(words) == 2 and not constructors:
            kinds.append(words[1])
        elif words[0] == "make" and len(words) >= 3:
            constructors.append((words[1], words[2], tuple(words[3:])))
        else:
            raise InvalidText(text)
    return tuple(kinds), tuple(constructors)


def schema_of_text(text):
    """The schema with this text; what Schema.read does, for other modules."""
    if not isinstance(text, str):
        raise InvalidText(text)
    kinds, constructors = _parts(text)
    try:
        return Schema(kinds, constructors)
    except (InvalidKinds, InvalidConstructors):
        raise InvalidText(text) from None


class Schema:
    """Kinds, the first of them the root kind, and the constructors that make trees of them."""

    def __init__(self, kinds, constructors):
        _check_kinds(kinds)
        _check_constructors(constructors, kinds)
        _check_trees(kinds, constructors)
        self._kinds = kinds
        self._constructors = constructors
        self._names = tuple([constructor[0] for constructor in constructors])
        self._places = {name: place for place, name in enumerate(self._names)}

    @staticmethod
    def read(text):
        """The schema with this text."""
        return schema_of_text(text)

    @property
    def kinds(self):
        """The kinds, in their order."""
        return self._kinds

    @property
    def constructors(self):
        """The constructors (name, kind, fields), in their order."""
        return self._constructors

    @property
    def root(self):
        """The root kind."""
        return self._kinds[0]

    @property
    def names(self):
        """The names of the constructors, in their order."""
        return self._names

    def of_kind(self, kind):
        """The names of the constructors of the kind, in their order."""
        if not _is_one_of(kind, self._kinds):
            raise UnknownKind(kind)
        return tuple([constructor[0] for constructor in self._constructors if constructor[1] == kind])

    def constructor(self, name):
        """The constructor with this name."""
        return self._constructors[self.place(name)]

    def place(self, name):
        """The place of the constructor with this name among the constructors."""
        if not _is_one_of(name, self._names):
            raise UnknownConstructor(name)
        return self._places[name]

    def __str__(self):
        kinds = [f"kind {kind}" for kind in self._kinds]
        makes = [" ".join(["make", name, kind, *fields]) for name, kind, fields in self._constructors]
        return "\n".join([*kinds, *makes])

    def __repr__(self):
        return f"Schema({len(self._kinds)} kinds, {len(self._constructors)} constructors)"

    def __len__(self):
        return len(self._constructors)

    def __contains__(self, value):
        return _is_one_of(value, self._names)

    def __eq__(self, other):
        return (
            isinstance(other, Schema)
            and self._kinds == other._kinds
            and self._constructors == other._constructors
        )
