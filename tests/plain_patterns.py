"""Patterns and the faces of trees, done plainly."""

import itertools

from tests import plain


def stand_behind(form, text, stand=0):
    """Where the pattern of this form is behind the text."""
    for sign in text:
        for start, signs, target in form[2]:
            if start == stand and (signs is None or sign in signs):
                stand = target
                break
    return stand


def keeps(form, text):
    return stand_behind(form, text) in form[1]


def face(form, text):
    return tuple(stand_behind(form, text, stand) for stand in range(form[0]))


def occurring(writer):
    """The pairs (constructor, mode) that occur, by a look at all choices of tops."""
    schema = writer.schema
    waiting = [(name, writer.start) for name in schema.of_kind(schema.root)]
    found = []
    while waiting:
        name, mode = waiting.pop()
        if (name, mode) in found:
            continue
        found.append((name, mode))
        for tops in itertools.product(*[schema.of_kind(kind) for kind in schema.constructor(name)[2]]):
            modes = plain.field_modes(writer.rules, (name, [(top, ()) for top in tops]), mode)
            waiting += [(top, one) for top, one in zip(tops, modes) if one is not None]
    return found


def triples(writer, form, most=60):
    """The triples (constructor, mode, face) of the pairs that occur, or more than so many of them."""
    schema = writer.schema
    found = {pair: set() for pair in occurring(writer)}
    before = -1
    while before < sum(map(len, found.values())) <= most:
        before = sum(map(len, found.values()))
        for name, mode in found:
            for tops in itertools.product(*[schema.of_kind(kind) for kind in schema.constructor(name)[2]]):
                found[(name, mode)] |= _made(writer, form, found, (name, [(top, ()) for top in tops]), mode)
    return {(*pair, its_face) for pair, faces in found.items() for its_face in faces}


def _made(writer, form, found, tree, mode):
    """The faces of what is written for trees with these tops, by the faces that were found for their fields."""
    faces = {tuple(range(form[0]))}
    for piece in plain.pieces(writer.rules, tree, mode):
        if isinstance(piece, str):
            parts = {face(form, piece)}
        else:
            parts = found[(tree[1][piece[0]][0], piece[1])]
        faces = {tuple(other[stand] for stand in one) for one in faces for other in parts}
    return faces


def some_pattern(source, signs="ab", stands=None):
    """A pattern by chance: its stands, good stands and moves."""
    many = stands or source.randint(1, 5)
    good = tuple(sorted(source.sample(range(many), source.randint(0, many))))
    moves = []
    for _ in range(source.randint(0, 8)):
        some = "".join(source.sample(signs, source.randint(1, len(signs))))
        moves.append((source.randrange(many), source.choice([some, some, None]), source.randrange(many)))
    return many, good, tuple(moves)
