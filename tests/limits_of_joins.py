"""Writers with as many joins as are possible, and with one more."""

from fivetrees.schemas import Schema
from fivetrees.writers import Writer

LOOK = (None, None)


def two_thousand():
    """Two writers with 2000 joins."""
    schema = Schema.read(
        "kind n\nmake end n\nmake c0 n n n\nmake c1 n n\nmake c2 n n n\nmake c3 n\nmake c4 n n n"
    )
    one = (
        ("a", "end", (), ()), ("a", "c0", LOOK, ("x", (0, "a"))), ("a", "c1", (None,), ("y", (0, "a"))),
        ("a", "c2", LOOK, ("y", (1, "a"))), ("a", "c3", (), ("x",)), ("a", "c4", LOOK, ("y", (0, "a"), (1, "a"))),
    )
    other = (
        ("a", "end", (), ()), ("a", "c0", LOOK, ("y", (1, "a"))), ("a", "c1", (None,), ((0, "a"),)),
        ("a", "c2", LOOK, ("x", (0, "a"), (1, "a"))), ("a", "c3", (), ()), ("a", "c4", LOOK, ("x", (0, "a"), (1, "a"))),
    )
    return Writer(schema, one, "a"), Writer(schema, other, "a")


def one_more():
    """Two writers with 2001 joins."""
    schema = Schema.read("kind n\nmake end n\nmake c0 n n n\nmake c1 n n n\nmake c2 n n n\nmake c3 n n")
    one = (
        ("a", "end", (), ("x",)), ("a", "c0", LOOK, ("x", (0, "a"), (1, "a"))), ("a", "c1", LOOK, ((0, "b"), (1, "a"))),
        ("a", "c2", LOOK, ("y", (0, "b"))), ("a", "c3", (None,), ("y", (0, "b"))), ("b", "end", (), ("y",)),
        ("b", "c0", LOOK, ("y", (0, "a"))), ("b", "c1", LOOK, ((0, "b"), (1, "a"))), ("b", "c2", LOOK, ((1, "b"),)),
        ("b", "c3", (None,), ("x",)),
    )
    other = (
        ("a", "end", (), ()), ("a", "c0", LOOK, ("y", (0, "a"), (1, "a"))), ("a", "c1", LOOK, ((0, "a"), (1, "a"))),
        ("a", "c2", LOOK, ((0, "a"), (1, "a"))), ("a", "c3", (None,), ("y",)),
    )
    return Writer(schema, one, "a"), Writer(schema, other, "a")


def one_more_beside_itself():
    """A writer that has 2001 joins beside itself."""
    schema = Schema.read("kind n\nmake end n\nmake c0 n n\nmake c1 n n n n\nmake c2 n\nmake c3 n n")
    rules = (
        ("a", "end", (), ("x",)), ("a", "c0", (None,), ("x",)),
        ("a", "c1", (None,) * 3, ("y", (0, "b"), (1, "b"), (2, "b"))), ("a", "c2", (), ()),
        ("a", "c3", (None,), ((0, "a"),)), ("b", "end", (), ("x",)), ("b", "c0", (None,), ((0, "a"),)),
        ("b", "c1", (None,) * 3, ("x", (0, "a"), (1, "b"))), ("b", "c2", (), ()), ("b", "c3", (None,), ((0, "b"),)),
    )
    return Writer(schema, rules, "a")


def one_more_for_modes():
    """A writer whose modes have 2001 joins, all pairs of them together."""
    schema = Schema.read("kind n\nmake end n\nmake c0 n n n n\nmake c1 n")
    rules = (
        ("a", "end", (), ()), ("a", "c0", (None,) * 3, ("y", (0, "c"), (1, "c"), (2, "b"))), ("a", "c1", (), ()),
        ("b", "end", (), ("y",)), ("b", "c0", (None,) * 3, ("y", (0, "b"), (1, "b"), (2, "b"))), ("b", "c1", (), ("x",)),
        ("c", "end", (), ()), ("c", "c0", (None,) * 3, ("x", (0, "a"), (1, "a"), (2, "a"))), ("c", "c1", (), ()),
    )
    return Writer(schema, rules, "a")


def two_thousand_empty():
    """Two writers with 2000 joins, of which each one is another choice of tops in a state: all texts are empty.

    The states of the trees below the begin have fifteen pairs of modes; each has 133 choices.
    """
    schema = Schema.read(
        "kind a\nkind b\nmake begin a b\nmake x b\nmake y b\nmake z b\nmake up b b\nmake three b b b b"
    )

    def writer(**modes):
        rules = [("c", "begin", (None,), ((0, "c"),))]
        for mode, (three, up) in modes.items():
            rules += [(mode, name, (), ()) for name in "xyz"]
            rules.append((mode, "up", (None,), ((0, up),)))
            rules.append((mode, "three", (None,) * 3, tuple((k, one) for k, one in enumerate(three) if one)))
        return Writer(schema, tuple(rules), "c")

    one = writer(a=([None, None, None], "a"), b=(["c", "c", None], "c"), c=(["b", "a", "a"], "c"))
    return one, writer(a=(["b", "b", "c"], "c"), b=([None, "b", "a"], "c"), c=(["c", None, "b"], "a"))


def great_first_tree(signs, before=""):
    """A writer whose first tree has four rows, 40 constructors, and a text of so many signs (without before)."""
    schema = Schema(
        ("a", "b", "c", "d"),
        (("top", "a", ("b",) * 3), ("mid", "b", ("c",) * 3), ("low", "c", ("d",) * 3), ("end", "d", ())),
    )
    # There are 27 ends and 9 of what is above them; the top writes what is left.
    each = min(160, signs // 27)
    low, rest = divmod(signs - 27 * each, 9)
    fields = ((0, "m"), (1, "m"), (2, "m"))
    rules = (
        ("m", "top", (None,) * 3, fields + pieces_of("t", rest)), ("m", "mid", (None,) * 3, fields),
        ("m", "low", (None,) * 3, fields + pieces_of("l", low)), ("m", "end", (), pieces_of("e", each)),
    )
    return Writer(schema, rules, "m", before=before)


def pieces_of(sign, many):
    """Strings of so many signs together."""
    return tuple(sign * min(20, many - start) for start in range(0, many, 20))
