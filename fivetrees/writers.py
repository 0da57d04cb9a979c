"""Writers: rules by which trees are written as text."""

from fivetrees.checks import are_signs, check_schema, is_number
from fivetrees.errors import EmptyKind, InvalidNumber, InvalidRules, InvalidSigns, InvalidStart
from fivetrees.errors import InvalidString, InvalidText, InvalidTree, MissingRule, NotAWriter
from fivetrees.errors import OtherSchema, TooLong, UnknownConstructor, UnknownMode
from fivetrees.limits import MOST_SIGNS, MOST_WRITTEN
from fivetrees.rules import check_needed, check_rules, is_string_within, modes_of, needed_pairs
from fivetrees.schemas import schema_of_text
from fivetrees.trees import check_tree
from fivetrees.writing import lengths_of, parts_of, texts_of


def check_writer(writer):
    """Refuse what is no Writer."""
    if not isinstance(writer, Writer):
        raise NotAWriter(writer)


def check_writers(writer, other):
    """Refuse what are no two Writers for equal schemas."""
    check_writer(writer)
    check_writer(other)
    if writer.schema != other.schema:
        raise OtherSchema()


def check_own_tree(writer, tree):
    """Refuse what is no Tree of the writer's schema."""
    check_tree(tree)
    if writer.schema != tree.schema:
        raise OtherSchema()


def check_root_tree(writer, tree):
    """Refuse what is no Tree of the root kind of the writer's schema."""
    check_own_tree(writer, tree)
    if tree.kind != writer.schema.root:
        raise InvalidTree(tree)


def _text_within(writer, rows, mode, around):
    """The text of the rows in the mode; not if it is too long, with so many signs around it."""
    parts = parts_of(writer.rules, rows, mode)
    lengths = lengths_of(parts)
    top = (len(rows) - 1, mode)
    length = lengths[top] + around
    if length > MOST_WRITTEN:
        raise TooLong(length)
    return texts_of(parts, lengths, lengths[top])[top]


def whole_text(writer, tree):
    """The text that a writer writes for a tree of the root kind."""
    around = len(writer.before) + len(writer.after)
    return writer.before + _text_within(writer, tree.rows, writer.start, around) + writer.after


def _check_added(other, string):
    """Refuse what cannot be added to the string before or after."""
    if not is_string_within(other, 0, MOST_SIGNS - len(string)):
        raise InvalidString(other)


def _check_around(string):
    if not is_string_within(string, 0, MOST_SIGNS):
        raise InvalidString(string)


def _is_sign(value):
    return are_signs(value) and len(value) == 1


def _table_of(signs):
    """The signs to be exchanged, each with the one that comes in its place."""
    if not isinstance(signs, tuple):
        raise InvalidSigns(None)
    table = {}
    for index, pair in enumerate(signs):
        if not isinstance(pair, tuple) or len(pair) != 2 or not _is_sign(pair[0]) or not _is_sign(pair[1]):
            raise InvalidSigns(index)
        if pair[0] in table:
            raise InvalidSigns(index)
        table[pair[0]] = pair[1]
    return table


def _exchanged_signs(text, table):
    return "".join([table.get(sign, sign) for sign in text])


def _spelled_rule(rule, table):
    mode, name, looks, pieces = rule
    new = [_exchanged_signs(piece, table) if isinstance(piece, str) else piece for piece in pieces]
    return (mode, name, looks, tuple(new))


def _exchanged_rule(rule, one, two):
    mode, name, looks, pieces = rule
    numbers = list(range(len(looks)))
    numbers[one], numbers[two] = two, one
    new_looks = [looks[number] for number in numbers]
    new_pieces = [piece if isinstance(piece, str) else (numbers[piece[0]], piece[1]) for piece in pieces]
    return (mode, name, tuple(new_looks), tuple(new_pieces))


class Writer:
    """Rules in one to three modes, by which each tree of the root kind is written as a text."""

    def __init__(self, schema, rules, start, *, before="", after=""):
        check_schema(schema)
        check_rules(schema, rules)
        modes = modes_of(rules)
        if not isinstance(start, str) or start not in modes:
            raise InvalidStart(start)
        needed = needed_pairs(schema, rules, start)
        check_needed(schema, rules, needed)
        _check_around(before)
        _check_around(after)
        self._schema = schema
        self._rules = rules
        self._start = start
        self._before = before
        self._after = after
        self._modes = modes
        self._needed = needed
        self._form = (str(schema), rules, start, before, after)

    @staticmethod
    def of_form(value):
        """The writer with this form."""
        if not isinstance(value, tuple) or len(value) != 5:
            raise InvalidText(value)
        text, rules, start, before, after = value
        try:
            return Writer(schema_of_text(text), rules, start, before=before, after=after)
        except (InvalidText, EmptyKind, InvalidRules, InvalidStart, MissingRule, InvalidString):
            raise InvalidText(value) from None

    @property
    def schema(self):
        """The schema."""
        return self._schema

    @property
    def start(self):
        """The mode in which trees of the root kind are written."""
        return self._start

    @property
    def rules(self):
        """The rules (mode, constructor, looks, pieces)."""
        return self._rules

    @property
    def before(self):
        """What stands ahead of each text."""
        return self._before

    @property
    def after(self):
        """What stands behind each text."""
        return self._after

    @property
    def modes(self):
        """The modes in the order in which they first stand in the rules."""
        return self._modes

    @property
    def form(self):
        """The text of the schema, the rules, the start, before and after."""
        return self._form

    def needs(self, mode, kind):
        """Whether any value is a mode that is needed with the kind."""
        return isinstance(mode, str) and (mode, kind) in self._needed

    def __call__(self, tree):
        check_root_tree(self, tree)
        return whole_text(self, tree)

    def written(self, tree, mode):
        """The text of a tree of any kind in a mode that is needed with its kind."""
        check_own_tree(self, tree)
        if not self.needs(mode, tree.kind):
            raise UnknownMode(mode)
        return _text_within(self, tree.rows, mode, 0)

    def __add__(self, other):
        _check_added(other, self._after)
        return Writer(self._schema, self._rules, self._start, before=self._before, after=self._after + other)

    def __radd__(self, other):
        _check_added(other, self._before)
        return Writer(self._schema, self._rules, self._start, before=other + self._before, after=self._after)

    def _with_rules(self, rules):
        return Writer(self._schema, rules, self._start, before=self._before, after=self._after)

    def spelled(self, signs):
        """The writer in which the signs of all strings are exchanged as the pairs tell."""
        table = _table_of(signs)
        rules = tuple([_spelled_rule(rule, table) for rule in self._rules])
        before = _exchanged_signs(self._before, table)
        after = _exchanged_signs(self._after, table)
        return Writer(self._schema, rules, self._start, before=before, after=after)

    def with_rule(self, index, rule):
        """The writer in which this rule has this index."""
        if not is_number(index, 0, len(self._rules)):
            raise InvalidNumber(index)
        return self._with_rules(self._rules[:index] + (rule,) + self._rules[index:])

    def without_rule(self, index):
        """The writer without the rule with this index."""
        if not is_number(index, 0, len(self._rules) - 1):
            raise InvalidNumber(index)
        return self._with_rules(self._rules[:index] + self._rules[index + 1:])

    def using(self, name, model):
        """The writer in which the constructor is written by the rules of the model."""
        own = self._schema.constructor(name)
        if self._schema.constructor(model)[1:] != own[1:]:
            raise UnknownConstructor(model)
        if name == model:
            return self
        rules = []
        for rule in self._rules:
            if rule[1] != name:
                rules.append(rule)
            if rule[1] == model:
                rules.append((rule[0], name, rule[2], rule[3]))
        return self._with_rules(tuple(rules))

    def exchanged(self, name, one, two):
        """The writer in which the rules of the constructor have the two fields exchanged."""
        kinds = self._schema.constructor(name)[2]
        last = len(kinds) - 1
        if not is_number(one, 0, last):
            raise InvalidNumber(one)
        if not is_number(two, 0, last) or kinds[one] != kinds[two]:
            raise InvalidNumber(two)
        rules = [_exchanged_rule(rule, one, two) if rule[1] == name else rule for rule in self._rules]
        return self._with_rules(tuple(rules))

    def __repr__(self):
        return f"Writer({len(self._modes)} modes, {len(self._rules)} rules)"

    def __eq__(self, other):
        return isinstance(other, Writer) and self._form == other._form
