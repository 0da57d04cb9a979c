"""The checker done plainly: each claim is looked at as the document words it. For small trees only."""

import itertools
from fractions import Fraction

from fivetrees.errors import InvalidText, TreeError
from fivetrees.patterns import Pattern
from fivetrees.writers import Writer
from tests import plain, plain_patterns
from tests.test_writing import needed


class No(Exception):
    """What is said does not hold, or has another form."""


def need(truth):
    if not truth:
        raise No()


def is_tuple(value, many=None):
    return type(value) is tuple and (many is None or len(value) == many)


def holds(claim, certificate):
    try:
        need(is_tuple(claim, 3) and type(claim[0]) is str)
        calls = {
            "alike": alike, "unlike": unlike, "constant": constant, "always": always, "not always": not_always,
            "reading": reading,
        }
        need(claim[0] in calls)
        calls[claim[0]](writer(claim[1]), claim[2], certificate)
        return True
    except No:
        return False


def writer(form):
    try:
        return Writer.of_form(form)
    except InvalidText:
        raise No() from None


def pattern(form):
    need(is_tuple(form, 3) and is_tuple(form[1]) and is_tuple(form[2]))
    try:
        found = Pattern(form[0], form[1], *form[2])
    except TreeError:
        raise No() from None
    need(list(form[1]) == sorted(form[1]))
    return found


def tree(schema, rows):
    """The tree of which these are just the rows."""
    need(is_tuple(rows) and 1 <= len(rows) <= 200)
    made, kinds = [], []
    for row in rows:
        need(is_tuple(row, 2) and type(row[0]) is str and row[0] in schema.names and is_tuple(row[1]))
        _, kind, fields = schema.constructor(row[0])
        need(len(row[1]) == len(fields))
        for number, field in zip(row[1], fields):
            need(type(number) is int and 0 <= number < len(made) and kinds[number] == field)
        made.append((row[0], tuple(made[number] for number in row[1])))
        kinds.append(kind)
    need(plain.rows(made[-1]) == rows)
    return made[-1]


def root_tree(schema, rows):
    found = tree(schema, rows)
    need(schema.constructor(found[0])[1] == schema.root)
    return found


def pair(one, name, mode):
    """Needs the name of a constructor, and a mode that is needed with its kind."""
    need(type(name) is str and name in one.schema.names and type(mode) is str)
    need((mode, one.schema.constructor(name)[1]) in needed(one))


def others(one, form):
    other = writer(form)
    need(one.schema == other.schema)
    return other


def tops_for(schema, name):
    """A tree with this top for each choice of the tops of its fields, with nothing below these."""
    kinds = schema.constructor(name)[2]
    return [(name, tuple((top, ()) for top in tops)) for tops in itertools.product(*map(schema.of_kind, kinds))]


def unlike(one, form, rows):
    other = others(one, form)
    found = root_tree(one.schema, rows)
    need(plain.whole(one, found) != plain.whole(other, found))


def reading(one, text, rows):
    need(type(text) is str and plain.whole(one, root_tree(one.schema, rows)) == text)


def not_always(one, form, rows):
    found = pattern(form)
    need(not plain_patterns.keeps(found.form, plain.whole(one, root_tree(one.schema, rows))))


def constant(one, text, triples):
    need(type(text) is str and is_tuple(triples))
    known = {}
    for triple in triples:
        need(is_tuple(triple, 3))
        pair(one, triple[0], triple[1])
        need(type(triple[2]) is str and triple[:2] not in known)
        known[triple[:2]] = triple[2]
    for name in one.schema.of_kind(one.schema.root):
        need((name, one.start) in known and one.before + known[(name, one.start)] + one.after == text)
    for (name, mode), its_text in known.items():
        for top in tops_for(one.schema, name):
            made = ""
            for piece in plain.pieces(one.rules, top, mode):
                if not isinstance(piece, str):
                    need((top[1][piece[0]][0], piece[1]) in known)
                made += piece if isinstance(piece, str) else known[(top[1][piece[0]][0], piece[1])]
            need(made == its_text)


def always(one, form, triples):
    its_form = pattern(form).form
    need(is_tuple(triples) and len(triples) <= 60)
    seen = []
    for triple in triples:
        need(is_tuple(triple, 3))
        pair(one, triple[0], triple[1])
        need(is_tuple(triple[2], its_form[0]))
        need(all(type(stand) is int and 0 <= stand < its_form[0] for stand in triple[2]))
        need(triple not in seen)
        seen.append(triple)
    for name, mode in plain_patterns.occurring(one):
        for top in tops_for(one.schema, name):
            choices = []
            for piece in plain.pieces(one.rules, top, mode):
                if isinstance(piece, str):
                    choices.append([plain_patterns.face(its_form, piece)])
                else:
                    choices.append([row[2] for row in seen if row[:2] == (top[1][piece[0]][0], piece[1])])
            for faces in itertools.product(*choices):
                found = tuple(range(its_form[0]))
                for face in faces:
                    found = tuple(face[stand] for stand in found)
                need((name, mode, found) in seen)
    for name, mode, face in seen:
        if mode == one.start and name in one.schema.of_kind(one.schema.root):
            stand = face[plain_patterns.stand_behind(its_form, one.before)]
            need(plain_patterns.stand_behind(its_form, one.after, stand) in its_form[1])


def states(one, other, value):
    need(is_tuple(value, 3) and type(value[0]) is str and value[0] in one.schema.names)
    for writes, mode in ((one, value[1]), (other, value[2])):
        if mode is not None:
            pair(writes, value[0], mode)
    return value


def field_states(one, other, state, top):
    modes = plain.field_modes(one.rules, top, state[1]), plain.field_modes(other.rules, top, state[2])
    return [(field[0], *both) for field, *both in zip(top[1], *modes)]


def alike(one, form, certificate):
    other = others(one, form)
    need(is_tuple(certificate, 2) and is_tuple(certificate[0]) and is_tuple(certificate[1]))
    listed = {}
    for entry in certificate[0]:
        need(is_tuple(entry, 2) and is_tuple(entry[1]))
        state = states(one, other, entry[0])
        need(state not in listed)
        listed[state] = [tree(one.schema, rows) for rows in entry[1]]
        need(all(found[0] == state[0] for found in listed[state]))
    for state in plain.root_states(one, other):
        need(state in listed)
        need(all(plain.whole(one, found) == plain.whole(other, found) for found in listed[state]))
    wanted = set()
    for state in listed:
        for top in tops_for(one.schema, state[0]):
            below = field_states(one, other, state, top)
            need(all(found in listed for found in below))
            options = [[(found[0], k) for k in range(len(listed[found]))] for found in below]
            wanted |= {(state, choice) for choice in itertools.product(*options)}
    sums(one, other, listed, wanted, certificate[1])


def sums(one, other, listed, wanted, triples):
    seen = set()
    for triple in triples:
        need(is_tuple(triple, 3))
        state, choice, numbers = states(one, other, triple[0]), triple[1], triple[2]
        need(is_tuple(choice) and all(is_tuple(both, 2) and type(both[0]) is str and type(both[1]) is int for both in choice))
        need((state, choice) in wanted and (state, choice) not in seen)
        seen.add((state, choice))
        need(is_tuple(numbers, len(listed[state])))
        need(all(is_tuple(both, 2) and type(both[0]) is type(both[1]) is int and both[1] > 0 for both in numbers))
        top = (state[0], tuple((name, ()) for name, index in choice))
        below = field_states(one, other, state, top)
        made = (state[0], tuple(listed[found][index] for found, (_, index) in zip(below, choice)))
        total = [Fraction(0)] * 5
        for found, number in zip(listed[state], numbers):
            row = plain.five(one, other, found, state)
            total = [old + Fraction(*number) * new for old, new in zip(total, row)]
        need(tuple(total) == plain.five(one, other, made, state))
    need(seen == wanted)
