"""Parts of schemas, and what is known of them."""

SUMS = (("num",), (("one", "num", ()), ("add", "num", ("num", "num")), ("mul", "num", ("num", "num"))))
LEAST = (("a",), (("b", "a", ()),))
MOST = (
    ("list", "item", "a", "abcdefgh"),
    (
        ("a2345678", "list", ("item", "list", "abcdefgh")),
        ("nil", "list", ()),
        ("list", "item", ("list", "list", "list")),
        ("a", "a", ()),
        ("z9", "item", ("a",)),
        ("end", "abcdefgh", ("item", "a")),
    ),
)
BOUGHT = (("list", "item"), (("nil", "list", ()), ("put", "list", ("item", "list")), ("dot", "item", ())))
EXAMPLES = (SUMS, LEAST, MOST, BOUGHT)


def has_tree(kind, constructors, above=()):
    """Whether the kind has a tree; a smallest one has no kind twice on a way down."""
    if kind in above:
        return False
    fitting = [fields for _, its_kind, fields in constructors if its_kind == kind]
    return any(all(has_tree(field, constructors, above + (kind,)) for field in fields) for fields in fitting)
