"""What is told by values that may be anything: writers, patterns, and the rows of trees."""

from fivetrees.checks import is_number
from fivetrees.errors import InvalidGood, InvalidMoves, InvalidNumber, InvalidRows, InvalidText
from fivetrees.patterns import Pattern
from fivetrees.trees import check_rows
from fivetrees.writers import Writer


def writer_of(value):
    """The writer with this form, None if the value is the form of none."""
    try:
        return Writer.of_form(value)
    except InvalidText:
        return None


def pattern_of(value):
    """The pattern with this form, None if the value is the form of none."""
    if not is_tuple_of(value, 3) or not isinstance(value[2], tuple):
        return None
    stands, good, moves = value
    try:
        pattern = Pattern(stands, good, *moves)
    except (InvalidNumber, InvalidGood, InvalidMoves):
        return None
    return pattern if pattern.good == good else None


def is_tuple_of(value, many):
    """Whether any value is a tuple of so many parts."""
    return isinstance(value, tuple) and len(value) == many


def _are_met_in_order(rows):
    """Whether each row is the next one that is met from the last one on, fields ahead, and none is left."""
    met = {}
    pending = [len(rows) - 1]
    while pending:
        number = pending[-1]
        left = [at for at in rows[number][1] if at not in met]
        if left:
            pending.append(left[0])
        elif number == len(met):
            met[number] = True
            pending.pop()
        else:
            return False
    return len(met) == len(rows)


def are_just_rows(schema, value):
    """Whether any value is just the rows of a tree."""
    try:
        check_rows(schema, value)
    except InvalidRows:
        return False
    return len(set(value)) == len(value) and _are_met_in_order(value)


def are_root_rows(schema, value):
    """Whether any value is just the rows of a tree of the root kind."""
    return are_just_rows(schema, value) and value[-1][0] in schema.of_kind(schema.root)


def is_pair(writer, name, mode):
    """Whether any values are the name of a constructor, and a mode that is needed with its kind."""
    return name in writer.schema and writer.needs(mode, writer.schema.constructor(name)[1])


def is_face(value, stands):
    """Whether any value is the face of a text for a pattern with so many stands."""
    if not is_tuple_of(value, stands):
        return False
    return all([is_number(stand, 0, stands - 1) for stand in value])
