"""Ways: the choices of tops for fields, put together where the same is written for them."""

from fivetrees.writing import first_fitting, is_general


def _reached(pairs):
    """The pairs (looks, pieces) of which each one can be the first that fits."""
    found = []
    for looks, pieces in pairs:
        found.append((looks, pieces))
        if is_general(looks):
            return found
    return found


def _groups(names, looks):
    """The names, those together that stand in the same looks."""
    found = {}
    for name in names:
        found.setdefault(tuple([look is None or name in look for look in looks]), []).append(name)
    return [tuple(group) for group in found.values()]


def _pieces_for(pairs, tops):
    # Without a mode, and so without rules, nothing is written.
    return first_fitting(pairs, tops) if pairs else ()


def ways_of(schema, kinds, pairs, others):
    """The ways of fields of these kinds, by the rules (looks, pieces) of a writer and of another one.

    A way is a triple: for each field a tuple of tops, and the pieces that the two writers write for
    any of these tops. Each choice of tops is in one way.
    """
    ones, twos = _reached(pairs), _reached(others)
    looks = [its_looks for its_looks, pieces in ones + twos]
    choices = [()]
    for field, kind in enumerate(kinds):
        groups = _groups(schema.of_kind(kind), [its_looks[field] for its_looks in looks])
        choices = [(*choice, group) for choice in choices for group in groups]
    found = []
    for choice in choices:
        tops = [group[0] for group in choice]
        found.append((choice, _pieces_for(ones, tops), _pieces_for(twos, tops)))
    return found


def field_modes(pieces, many):
    """The modes in which the pieces write so many fields, None for those that they do not write."""
    modes = [None] * many
    for piece in pieces:
        if not isinstance(piece, str):
            modes[piece[0]] = piece[1]
    return modes
