"""Schemas and writers by chance, the same ones in each run: the source of chance is passed."""

from fivetrees.errors import EmptyKind
from fivetrees.schemas import Schema
from fivetrees.writers import Writer


def schema(source):
    while True:
        kinds = tuple("kjhg"[:source.randint(1, 3)])
        makes = [source.choices(kinds, k=source.choice([0, 0, 1, 1, 2, 2, 3])) for _ in range(source.randint(1, 5))]
        constructors = tuple((f"c{k}", source.choice(kinds), tuple(fields)) for k, fields in enumerate(makes))
        try:
            return Schema(kinds, constructors)
        except EmptyKind:
            continue


def _string(source, signs):
    return "".join(source.choices(signs, k=source.randint(1, 2)))


def _look(source, names):
    return None if source.random() < 0.5 else tuple(source.sample(names, source.randint(1, len(names))))


def rule(source, its_schema, constructor, mode, modes, signs, with_looks):
    name, _, fields = constructor
    looks = tuple(_look(source, its_schema.of_kind(kind)) if with_looks else None for kind in fields)
    numbers = [k for k in range(len(fields)) if source.random() < 0.85]
    if source.random() < 0.3:
        source.shuffle(numbers)
    pieces = []
    for number in numbers:
        pieces += [_string(source, signs)] * source.randint(0, 1) + [(number, source.choice(modes))]
    if source.random() < 0.5 or not pieces:
        pieces.append(_string(source, signs))
    return (mode, name, looks, tuple(pieces))


def writer(source, its_schema, signs="ab", modes=None):
    """A writer with rules without looks for everything, and some with looks ahead of them or behind."""
    modes = modes or tuple("xyz"[:source.choice([1, 1, 2, 2, 3])])
    rules = []
    for mode in modes:
        for constructor in its_schema.constructors:
            if constructor[2] and source.random() < 0.4:
                rules.append(rule(source, its_schema, constructor, mode, modes, signs, True))
            rules.append(rule(source, its_schema, constructor, mode, modes, signs, False))
    if source.random() < 0.3:
        source.shuffle(rules)
    around = [source.choice(["", signs[0]]), source.choice(["", signs[-1] * 2])]
    return Writer(its_schema, tuple(rules), source.choice(modes), before=around[0], after=around[1])
