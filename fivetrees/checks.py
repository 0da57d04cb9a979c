"""What several modules ask of values that may be anything."""

from fivetrees.errors import NotASchema
from fivetrees.schemas import Schema


def is_integer(value):
    """Whether any value is an integer; True and False are none."""
    return isinstance(value, int) and not isinstance(value, bool)


def is_number(value, least, most):
    """Whether any value is an integer from the least to the most."""
    return is_integer(value) and least <= value <= most


def are_signs(value):
    """Whether any value is a string of signs from the space to the tilde, or newlines."""
    if not isinstance(value, str):
        return False
    return all([sign == "\n" or " " <= sign <= "~" for sign in value])


def check_schema(schema):
    """Refuse what is no Schema."""
    if not isinstance(schema, Schema):
        raise NotASchema(schema)
