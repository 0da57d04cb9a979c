"""Samples: a schema of sums and products, and three writers that set brackets."""

from fivetrees.schemas import Schema
from fivetrees.writers import Writer

SUMS = (
    ("one", "num", ()),
    ("add", "num", ("num", "num")),
    ("mul", "num", ("num", "num")),
)

LOOKING = (
    ("top", "one", (), ("1",)),
    ("top", "add", (None, None), ((0, "top"), "+", (1, "top"))),
    ("top", "mul", (("add",), ("add",)), ("(", (0, "top"), ")*(", (1, "top"), ")")),
    ("top", "mul", (("add",), None), ("(", (0, "top"), ")*", (1, "top"))),
    ("top", "mul", (None, ("add",)), ((0, "top"), "*(", (1, "top"), ")")),
    ("top", "mul", (None, None), ((0, "top"), "*", (1, "top"))),
)

MODING = (
    ("sum", "one", (), ("1",)),
    ("sum", "add", (None, None), ((0, "sum"), "+", (1, "sum"))),
    ("sum", "mul", (None, None), ((0, "part"), "*", (1, "part"))),
    ("part", "one", (), ("1",)),
    ("part", "add", (None, None), ("(", (0, "sum"), "+", (1, "sum"), ")")),
    ("part", "mul", (None, None), ((0, "part"), "*", (1, "part"))),
)

FULL = (
    ("all", "one", (), ("1",)),
    ("all", "add", (None, None), ("(", (0, "all"), "+", (1, "all"), ")")),
    ("all", "mul", (None, None), ("(", (0, "all"), "*", (1, "all"), ")")),
)


def sums_schema():
    """Numbers: one, sums and products of two."""
    return Schema(("num",), SUMS)


def looking_writer():
    """Sets brackets where a product's field is a sum, by looks."""
    return Writer(sums_schema(), LOOKING, "top")


def moding_writer():
    """Sets brackets where a product's field is a sum, by modes."""
    return Writer(sums_schema(), MODING, "sum")


def full_writer():
    """Sets brackets everywhere."""
    return Writer(sums_schema(), FULL, "all")
