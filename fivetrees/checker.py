"""The checker: which claims are true by their certificates, whoever wrote them."""

from fivetrees.agreeing import certifies_alike
from fivetrees.faces import composed, leads_to_good
from fivetrees.forms import are_root_rows, is_face, is_pair, is_tuple_of, pattern_of, writer_of
from fivetrees.grammars import Grammar
from fivetrees.limits import MOST_FACES, MOST_WRITTEN
from fivetrees.ways import ways_of
from fivetrees.writing import lengths_of, parts_of, rules_by_pair, text_of


def _length(writer, rows):
    """The length of the whole text of the rows of a tree."""
    lengths = lengths_of(parts_of(writer.rules, rows, writer.start))
    return len(writer.before) + lengths[(len(rows) - 1, writer.start)] + len(writer.after)


def _text(writer, rows):
    return writer.before + text_of(writer.rules, rows, writer.start) + writer.after


def _ways(writer, name, mode):
    """The ways (tops for each field, pieces) in which trees with this top are written in the mode."""
    pairs = rules_by_pair(writer.rules)[(mode, name)]
    found = ways_of(writer.schema, writer.schema.constructor(name)[2], pairs, [])
    return [(choice, pieces) for choice, pieces, others in found]


def _holds_alike(writer, value, certificate):
    other = writer_of(value)
    if other is None or other.schema != writer.schema:
        return False
    return certifies_alike(writer, other, certificate)


def _holds_unlike(writer, value, rows):
    other = writer_of(value)
    if other is None or other.schema != writer.schema or not are_root_rows(writer.schema, rows):
        return False
    length = _length(writer, rows)
    if length != _length(other, rows):
        return True
    # Longer texts are not written, whether they are the same or not.
    around = len(writer.before) + len(writer.after)
    return length - around <= MOST_WRITTEN and _text(writer, rows) != _text(other, rows)


def _texts_of_way(texts, choice, pieces):
    """The texts that the pieces make of those of the fields, for all tops of the choice; None if one lacks."""
    found = {"": True}
    for piece in pieces:
        if isinstance(piece, str):
            parts = [piece]
        else:
            pairs = [(top, piece[1]) for top in choice[piece[0]]]
            if not all([pair in texts for pair in pairs]):
                return None
            parts = [texts[pair] for pair in pairs]
        found = {text + part: True for text in found for part in parts}
    return list(found)


def _told_texts(writer, certificate):
    """For each pair (constructor, mode) the text that the certificate tells, None if it is none."""
    if not isinstance(certificate, tuple):
        return None
    found = {}
    for entry in certificate:
        if not is_tuple_of(entry, 3) or not isinstance(entry[2], str) or not is_pair(writer, entry[0], entry[1]):
            return None
        if (entry[0], entry[1]) in found:
            return None
        found[(entry[0], entry[1])] = entry[2]
    return found


def _holds_constant(writer, value, certificate):
    texts = _told_texts(writer, certificate)
    if texts is None or not isinstance(value, str):
        return False
    for name in writer.schema.of_kind(writer.schema.root):
        if (name, writer.start) not in texts:
            return False
        if writer.before + texts[(name, writer.start)] + writer.after != value:
            return False
    for pair, text in texts.items():
        for choice, pieces in _ways(writer, pair[0], pair[1]):
            if _texts_of_way(texts, choice, pieces) != [text]:
                return False
    return True


def _told_faces(writer, pattern, certificate):
    """For each pair (constructor, mode) the faces that the certificate tells, None if it is none."""
    if not isinstance(certificate, tuple) or len(certificate) > MOST_FACES:
        return None
    found = {}
    for entry in certificate:
        if not is_tuple_of(entry, 3) or not is_pair(writer, entry[0], entry[1]):
            return None
        if not is_face(entry[2], pattern.stands):
            return None
        faces = found.setdefault((entry[0], entry[1]), {})
        if entry[2] in faces:
            return None
        faces[entry[2]] = True
    return found


def _faces_of_way(pattern, told, choice, pieces):
    """The faces that the pieces make of those that are told for the fields, for all tops of the choice."""
    found = {tuple(range(pattern.stands)): True}
    for piece in pieces:
        if isinstance(piece, str):
            parts = [pattern.face(piece)]
        else:
            parts = [face for top in choice[piece[0]] for face in told.get((top, piece[1]), {})]
        found = {composed(face, part): True for face in found for part in parts}
    return found


def _are_faces_of_pair(writer, pattern, told, name, mode):
    """Whether all faces are told for the pair that are made of those told for the fields."""
    own = told.get((name, mode), {})
    for choice, pieces in _ways(writer, name, mode):
        if not all([face in own for face in _faces_of_way(pattern, told, choice, pieces)]):
            return False
    return True


def _holds_always(writer, value, certificate):
    pattern = pattern_of(value)
    told = None if pattern is None else _told_faces(writer, pattern, certificate)
    if told is None:
        return False
    for name in writer.schema.of_kind(writer.schema.root):
        if not all([leads_to_good(writer, pattern, face) for face in told.get((name, writer.start), {})]):
            return False
    for name, mode in Grammar(writer).pairs:
        if mode is not None and not _are_faces_of_pair(writer, pattern, told, name, mode):
            return False
    return True


def _face_of_rows(writer, pattern, rows):
    """The face of the text of the rows of a tree, without before and after, however long."""
    found = {}
    for pair, parts in parts_of(writer.rules, rows, writer.start).items():
        face = tuple(range(pattern.stands))
        for part in parts:
            face = composed(face, pattern.face(part) if isinstance(part, str) else found[part])
        found[pair] = face
    return found[(len(rows) - 1, writer.start)]


def _holds_not_always(writer, value, rows):
    pattern = pattern_of(value)
    if pattern is None or not are_root_rows(writer.schema, rows):
        return False
    return not leads_to_good(writer, pattern, _face_of_rows(writer, pattern, rows))


def _holds_reading(writer, value, rows):
    if not isinstance(value, str) or not are_root_rows(writer.schema, rows):
        return False
    # A text is written only if it is as long as the other one.
    return _length(writer, rows) == len(value) and _text(writer, rows) == value


CHECKS = {
    "alike": _holds_alike,
    "unlike": _holds_unlike,
    "constant": _holds_constant,
    "always": _holds_always,
    "not always": _holds_not_always,
    "reading": _holds_reading,
}


def holds(claim, certificate):
    """Whether any values are a claim and a certificate for it, by which the claim is true."""
    if not is_tuple_of(claim, 3) or not isinstance(claim[0], str) or claim[0] not in CHECKS:
        return False
    writer = writer_of(claim[1])
    if writer is None:
        return False
    check = CHECKS[claim[0]]
    return check(writer, claim[2], certificate)
