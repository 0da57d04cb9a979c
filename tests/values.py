"""Values of all kinds, for parameters that take any value."""


class Alike:
    """Says that it equals everything."""

    def __eq__(self, other):
        return True

    __hash__ = None


class Broken:
    """Can neither be compared, nor measured, nor shown, nor hashed, nor tested."""

    def __eq__(self, other):
        raise RuntimeError("compared")

    __hash__ = None

    def __len__(self):
        raise RuntimeError("measured")

    def __bool__(self):
        raise RuntimeError("tested")

    def __iter__(self):
        raise RuntimeError("iterated")

    def __repr__(self):
        raise RuntimeError("shown")


def nested(depth):
    value = ()
    for _ in range(depth - 1):
        value = (value,)
    return value


def no_strings():
    """Values that are no strings."""
    return [
        None, True, False, 0, 1, -1, 10 ** 39, b"num", b"", (), ("num",), [], ["num"], {}, {"num": "num"},
        {"num"}, frozenset(["num"]), object(), object, len, lambda: "num", range(2), iter("num"),
        ValueError("num"), nested(30), Alike(), Broken(),
    ]


def no_tuples():
    """Values that are no tuples, strings among them."""
    return [value for value in no_strings() if not isinstance(value, tuple)] + ["", "num", "kind num"]


def no_names():
    """Values that are no names, strings among them."""
    return no_strings() + [
        "", " ", "A", "Num", "nuM", "1", "1a", "_", "_a", "a_", "a b", " a", "a ", "a\n", "\na", "a-b", "a.b",
        "abcdefghi", "a23456789", "a" * 5000, "\u00e9", "a\u00e9", "a\u0301", "\u0430", "a\u0430", "a\u0661", "\uff41",
        "a\uff11", "a\u00b2", "\ud800", "a\x00", "a\t", "a\r", "a`", "a{", "`a", "{a", "a/", "a:", "a@", "a[",
    ]


def no_numbers():
    """Values that are no integers."""
    return [value for value in no_strings() if isinstance(value, bool) or not isinstance(value, int)] + [
        "", "0", "1", (0,), (1,), [0], {0: 1}, b"1",
    ]


def no_signs():
    """Values that are no strings of signs from the space to the tilde, or newlines."""
    return no_strings() + [
        "\t", "\r", "\x00", "\x1f", "\x7f", "\x80", "\u00a0", "\u00e9", "\u2028", "\ud800", "a\t", "\ra", "a\x7fb",
        "\U0001d41a",
    ]
