"""What is a rule, and which modes are needed with which kinds."""

from fivetrees.checks import are_signs, is_number
from fivetrees.errors import InvalidRules, MissingRule
from fivetrees.limits import MOST_MODES, MOST_PIECES, MOST_RULES, MOST_SIGNS
from fivetrees.schemas import is_name
from fivetrees.writing import is_general


def is_string_within(value, least, most):
    """Whether any value is a string of signs, with from the least to the most of them."""
    return isinstance(value, str) and least <= len(value) <= most and are_signs(value)


def _is_look(value, names):
    if value is None:
        return True
    if not isinstance(value, tuple) or not value:
        return False
    if not all([isinstance(name, str) and name in names for name in value]):
        return False
    return all([value[place] not in value[:place] for place in range(len(value))])


def _are_looks(schema, kinds, value):
    if not isinstance(value, tuple) or len(value) != len(kinds):
        return False
    return all([_is_look(look, schema.of_kind(kind)) for look, kind in zip(value, kinds)])


def _is_field_piece(value, many):
    if not isinstance(value, tuple) or len(value) != 2:
        return False
    return is_number(value[0], 0, many - 1) and is_name(value[1])


def _are_pieces(many, value):
    """Whether any value is the pieces of a rule whose constructor has so many fields."""
    if not isinstance(value, tuple) or len(value) > MOST_PIECES:
        return False
    fields = []
    for piece in value:
        if _is_field_piece(piece, many) and piece[0] not in fields:
            fields.append(piece[0])
        elif not is_string_within(piece, 1, MOST_SIGNS):
            return False
    return True


def _is_rule(schema, value):
    if not isinstance(value, tuple) or len(value) != 4:
        return False
    mode, name, looks, pieces = value
    if not is_name(mode) or name not in schema:
        return False
    kinds = schema.constructor(name)[2]
    return _are_looks(schema, kinds, looks) and _are_pieces(len(kinds), pieces)


def field_pieces(rule):
    """The pieces of a rule that write fields."""
    return [piece for piece in rule[3] if not isinstance(piece, str)]


def modes_of(rules):
    """The modes in the order in which they first stand in the rules."""
    return tuple({rule[0]: True for rule in rules})


def check_rules(schema, rules):
    """Refuse what are no rules of a writer, one by one and beside one another."""
    if not isinstance(rules, tuple) or not 1 <= len(rules) <= MOST_RULES:
        raise InvalidRules(None)
    modes = []
    for index, rule in enumerate(rules):
        if not _is_rule(schema, rule):
            raise InvalidRules(index)
        if rule[0] not in modes:
            modes.append(rule[0])
        if len(modes) > MOST_MODES:
            raise InvalidRules(index)
    for index, rule in enumerate(rules):
        if not all([piece[1] in modes for piece in field_pieces(rule)]):
            raise InvalidRules(index)


def _pairs_below(schema, rules, mode, kind):
    """The pairs (mode, kind) in which the rules of this mode write fields of trees of this kind."""
    found = []
    for rule in rules:
        constructor = schema.constructor(rule[1])
        if rule[0] == mode and constructor[1] == kind:
            for field, its_mode in field_pieces(rule):
                found.append((its_mode, constructor[2][field]))
    return found


def needed_pairs(schema, rules, start):
    """The pairs (mode, kind) that are needed."""
    found = [(start, schema.root)]
    place = 0
    while place < len(found):
        mode, kind = found[place]
        for pair in _pairs_below(schema, rules, mode, kind):
            if pair not in found:
                found.append(pair)
        place += 1
    return tuple(found)


def check_needed(schema, rules, needed):
    """Refuse rules that lack one without looks for a needed mode and a constructor."""
    general = [(rule[0], rule[1]) for rule in rules if is_general(rule[2])]
    for mode in modes_of(rules):
        for constructor in schema.constructors:
            name, kind = constructor[0], constructor[1]
            if (mode, kind) in needed and (mode, name) not in general:
                raise MissingRule(mode, name)
