"""Values in which one part is another one."""

from tests.values import Alike, Broken


def others(leaf):
    """What may stand in the place of a leaf: of another kind, and of the same one."""
    if isinstance(leaf, bool) or leaf is None:
        return [0, 1, "", "a", (), Alike()]
    if isinstance(leaf, int):
        found = [leaf + 1, leaf - 1, -leaf, str(leaf), None, (leaf,), 10 ** 39, Alike(), Broken(), [leaf]]
        return found + ([bool(leaf)] if leaf in (0, 1) else [])
    return [leaf + "a", leaf[1:], leaf[::-1], leaf.encode(), None, 0, (leaf,), [leaf], Alike(), Broken(), ""]


def variants(value):
    """Each variant of nested tuples in which one part is left out, doubled, exchanged, or another one."""
    if not isinstance(value, tuple):
        yield from others(value)
        return
    yield list(value)
    yield None
    yield (value,)
    yield dict.fromkeys(range(len(value)), 1)
    for k, part in enumerate(value):
        yield value[:k] + value[k + 1:]
        yield value[:k] + (part, part) + value[k + 1:]
        if k:
            yield value[:k - 1] + (part, value[k - 1]) + value[k + 1:]
        for one in variants(part):
            yield value[:k] + (one,) + value[k + 1:]
