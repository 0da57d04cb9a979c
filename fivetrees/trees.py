"""Trees, told by rows with shared parts, and their order."""

from fivetrees.checks import check_schema, is_number
from fivetrees.errors import InvalidFields, InvalidNumber, InvalidPath, InvalidRows, InvalidText
from fivetrees.errors import InvalidTree, NotATree, OtherSchema, TooManyRows
from fivetrees.limits import MOST_LISTED, MOST_ROWS

DIGITS = "0123456789"
# The number of a row has as many digits as the greatest one, 199.
MOST_DIGITS = 3


def check_tree(tree):
    """Refuse what is no Tree."""
    if not isinstance(tree, Tree):
        raise NotATree(tree)


def is_tree_of(value, schema, kind):
    """Whether any value is a Tree of an equal schema and of this kind."""
    return isinstance(value, Tree) and value.kind == kind and value.schema == schema


def _check_fields(schema, kinds, fields):
    if len(fields) != len(kinds):
        raise InvalidFields(None)
    for index, kind in enumerate(kinds):
        if not is_tree_of(fields[index], schema, kind):
            raise InvalidFields(index)


def _rows_below(name, fields):
    """The rows of the tree with this top and these fields."""
    places = {}
    tops = []
    for field in fields:
        numbers = []
        for its_name, its_numbers in field.rows:
            row = (its_name, tuple([numbers[k] for k in its_numbers]))
            if row not in places:
                places[row] = len(places)
            numbers.append(places[row])
        tops.append(numbers[-1])
    if len(places) >= MOST_ROWS:
        raise TooManyRows(MOST_ROWS)
    return tuple([*places, (name, tuple(tops))])


def _is_row(schema, row, kinds):
    """Whether any value is a row behind rows of these kinds."""
    if not isinstance(row, tuple) or len(row) != 2:
        return False
    name, numbers = row
    if name not in schema or not isinstance(numbers, tuple):
        return False
    wanted = schema.constructor(name)[2]
    if len(numbers) != len(wanted):
        return False
    last = len(kinds) - 1
    return all([is_number(at, 0, last) and kinds[at] == kind for at, kind in zip(numbers, wanted)])


def check_rows(schema, rows):
    """Refuse what are no rows, where any order, equal ones and ones not needed are possible."""
    if not isinstance(rows, tuple) or not 1 <= len(rows) <= MOST_ROWS:
        raise InvalidRows(None)
    kinds = []
    for index, row in enumerate(rows):
        if not _is_row(schema, row, kinds):
            raise InvalidRows(index)
        kinds.append(schema.constructor(row[0])[1])


def _number(word):
    # Python reads no number that is very long, and reads signs that are no digits here.
    if len(word) > MOST_DIGITS or not word or not all([sign in DIGITS for sign in word]):
        return None
    return int(word)


def _rows_of_text(text):
    """The rows that a text tells; where it tells none, these are no rows."""
    rows = []
    for part in text.split("; "):
        words = part.split(" ")
        rows.append((words[0], tuple([_number(word) for word in words[1:]])))
    return tuple(rows)


def _tree_at(tree, path):
    if not isinstance(path, tuple):
        raise InvalidPath(path)
    for number in path:
        if not is_number(number, 0, len(tree.fields) - 1):
            raise InvalidPath(path)
        tree = tree.fields[number]
    return tree


class Tree:
    """A constructor with a tree for each of its fields."""

    def __init__(self, schema, name, *fields):
        check_schema(schema)
        own_name, kind, kinds = schema.constructor(name)
        _check_fields(schema, kinds, fields)
        self._rows = _rows_below(own_name, fields)
        self._schema = schema
        # Errors have attributes of these two names, so here they are no properties either.
        self.name = own_name
        self.kind = kind
        self._fields = fields
        self._size = 1 + sum([field.size for field in fields])
        self._depth = 1 + max([field.depth for field in fields], default=0)

    @classmethod
    def of_rows(cls, schema, rows):
        """The tree of the last row."""
        check_schema(schema)
        check_rows(schema, rows)
        made = []
        for name, numbers in rows:
            fields = [made[number] for number in numbers]
            made.append(cls(schema, name, *fields))
        return made[-1]

    @classmethod
    def read(cls, schema, text):
        """The tree with this text."""
        check_schema(schema)
        if not isinstance(text, str):
            raise InvalidText(text)
        rows = _rows_of_text(text)
        try:
            tree = cls.of_rows(schema, rows)
        except InvalidRows:
            raise InvalidText(text) from None
        # Other texts could tell the same tree: by another order, or by zeros ahead of a number.
        if str(tree) != text:
            raise InvalidText(text)
        return tree

    @property
    def schema(self):
        """The schema."""
        return self._schema

    @property
    def rows(self):
        """The rows (constructor, numbers); the last one is the whole tree."""
        return self._rows

    @property
    def fields(self):
        """The trees in the fields of the top."""
        return self._fields

    @property
    def size(self):
        """The number of constructors, each one counted wherever it stands."""
        return self._size

    @property
    def depth(self):
        """The number of constructors on a longest way down."""
        return self._depth

    def put(self, path, other):
        """The tree in which the other one stands at the path."""
        old = _tree_at(self, path)
        if not is_tree_of(other, self._schema, old.kind):
            raise InvalidTree(other)
        above = []
        tree = self
        for number in path:
            above.append((tree, number))
            tree = tree.fields[number]
        new = other
        for tree, number in reversed(list(above)):
            fields = list(tree.fields)
            fields[number] = new
            new = Tree(self._schema, tree.name, *fields)
        return new

    def __getitem__(self, at):
        return _tree_at(self, at)

    def __iter__(self):
        raise TypeError("a tree is not iterated over: ask for its fields")

    def __str__(self):
        return "; ".join([" ".join([name, *[str(at) for at in numbers]]) for name, numbers in self._rows])

    def __len__(self):
        return len(self._rows)

    def __repr__(self):
        return f"Tree({self.name}, size {self._size})"

    def __eq__(self, other):
        return isinstance(other, Tree) and self._rows == other._rows and self._schema == other._schema


def _first_different(fields, others):
    for field, other in zip(fields, others):
        if field != other:
            return field, other
    return None


def compare(one, other):
    """-1 if the first tree comes before the second one, 0 if they are equal, 1 if behind."""
    check_tree(one)
    check_tree(other)
    schema = one.schema
    if schema != other.schema:
        raise OtherSchema()
    # Only the first fields that differ have to be looked into, so this is one way down.
    while one != other:
        if one.size != other.size:
            return -1 if one.size < other.size else 1
        if one.name != other.name:
            return -1 if schema.place(one.name) < schema.place(other.name) else 1
        one, other = _first_different(one.fields, other.fields)
    return 0


def _can_sum(sizes, kinds, total):
    """Whether trees of these kinds can have this size together."""
    if not kinds:
        return total == 0
    rest = kinds[1:]
    return any([size <= total and _can_sum(sizes, rest, total - size) for size in sizes[kinds[0]]])


def _sizes(schema, most):
    """For each kind the sizes that its trees have, ascending."""
    found = {kind: [] for kind in schema.kinds}
    for size in range(1, most + 1):
        for constructor in schema.constructors:
            kind, kinds = constructor[1], constructor[2]
            if size not in found[kind] and _can_sum(found, kinds, size - 1):
                found[kind].append(size)
    return found


def _splits(schema, most):
    """For kinds of fields and their size together: the sizes that the first field can have."""
    sizes = _sizes(schema, most)
    found = {}
    for constructor in schema.constructors:
        kinds = constructor[2]
        for place in range(len(kinds)):
            first, rest = kinds[place], kinds[place + 1:]
            for total in range(most):
                found[(kinds[place:], total)] = [
                    size for size in sizes[first] if size <= total and _can_sum(sizes, rest, total - size)
                ]
    return found


def _fields_of_size(schema, splits, kinds, total):
    """Yield the trees for fields of these kinds, of this size together, in their order."""
    if not kinds:
        if total == 0:
            yield ()
        return
    kind, rest = kinds[0], kinds[1:]
    for size in splits[(kinds, total)]:
        left = total - size
        for tree in _trees_of_size(schema, splits, kind, size):
            for trees_behind in _fields_of_size(schema, splits, rest, left):
                yield (tree, *trees_behind)


def _trees_of_size(schema, splits, kind, size):
    """Yield the trees of this kind and size in their order."""
    total = size - 1
    for name in schema.of_kind(kind):
        kinds = schema.constructor(name)[2]
        for fields in _fields_of_size(schema, splits, kinds, total):
            yield Tree(schema, name, *fields)


def trees(schema, kind, *, most):
    """Yield the trees of the kind with at most this size, in their order."""
    check_schema(schema)
    schema.of_kind(kind)
    if not is_number(most, 0, MOST_LISTED):
        raise InvalidNumber(most)
    splits = _splits(schema, most)
    for size in range(1, most + 1):
        for tree in _trees_of_size(schema, splits, kind, size):
            yield tree
