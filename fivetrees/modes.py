"""Modes that are one, and writers without what they do not need."""

from fivetrees.rules import needed_pairs
from fivetrees.searching import kept_trees
from fivetrees.writers import Writer, check_writer
from fivetrees.writing import is_general


def _pairs_of(modes):
    """All pairs of two different modes, the earlier one first."""
    return [(modes[at], mode) for place, mode in enumerate(modes) for at in range(place)]


def _unlike_pairs(writer, kind, modes):
    """The pairs of modes, the earlier one first, that write some tree of the kind unlike."""
    pairs = _pairs_of(modes)
    names = writer.schema.of_kind(kind)
    starts = tuple([(name, mode, other) for mode, other in pairs for name in names])
    found = []
    for state, tree in kept_trees(writer, writer, starts):
        mode, other = state[1], state[2]
        # The texts of kept trees in their states are short enough to be written.
        if state in starts and writer.written(tree, mode) != writer.written(tree, other):
            found.append((mode, other))
    return found


def mode_classes(writer, kind):
    """The modes that are needed with the kind, those together that write every tree of it alike."""
    check_writer(writer)
    writer.schema.of_kind(kind)
    modes = [mode for mode in writer.modes if writer.needs(mode, kind)]
    unlike = _unlike_pairs(writer, kind, modes)
    classes = []
    for mode in modes:
        fitting = [place for place, known in enumerate(classes) if (known[0], mode) not in unlike]
        if fitting:
            classes[fitting[0]].append(mode)
        else:
            classes.append([mode])
    return tuple([tuple(known) for known in classes])


def _first_modes(writer):
    """For each needed pair (mode, kind) the first mode that writes every tree of the kind alike."""
    found = {}
    for kind in writer.schema.kinds:
        for known in mode_classes(writer, kind):
            for mode in known:
                found[(mode, kind)] = known[0]
    return found


def _with_first_modes(schema, rule, firsts):
    mode, name, looks, pieces = rule
    constructor = schema.constructor(name)
    if (mode, constructor[1]) not in firsts:
        return rule
    kinds = constructor[2]
    new = [piece if isinstance(piece, str) else (piece[0], firsts[(piece[1], kinds[piece[0]])]) for piece in pieces]
    return (mode, name, looks, tuple(new))


def _reached(rules):
    """The rules without those behind one of the same mode and constructor without looks."""
    general = []
    found = []
    for rule in rules:
        if (rule[0], rule[1]) not in general:
            found.append(rule)
        if is_general(rule[2]):
            general.append((rule[0], rule[1]))
    return found


def lean(writer):
    """The writer with one mode for those that write alike, and without rules that are not needed."""
    check_writer(writer)
    schema = writer.schema
    firsts = _first_modes(writer)
    start = firsts[(writer.start, schema.root)]
    rules = _reached([_with_first_modes(schema, rule, firsts) for rule in writer.rules])
    needed = needed_pairs(schema, rules, start)
    left = [rule for rule in rules if (rule[0], schema.constructor(rule[1])[1]) in needed]
    return Writer(schema, tuple(left), start, before=writer.before, after=writer.after)
