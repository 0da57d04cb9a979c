"""The numbers of texts (point 13), beside their lengths, as triples (length, power, worth).

The power is the base to the power of the length, the worth the text read as a number in this base.
"""

EMPTY = (0, 1, 0)


def _strings_of(writer):
    pieces = [piece for rule in writer.rules for piece in rule[3] if isinstance(piece, str)]
    return [writer.before, writer.after, *pieces]


def digits_of(writer, other):
    """The number of each sign of the strings of both writers, from 1 on, ascending."""
    signs = sorted(set("".join(_strings_of(writer) + _strings_of(other))))
    return {sign: number for number, sign in enumerate(signs, start=1)}


def base_of(digits):
    """The base that belongs to these numbers of signs."""
    return max(2, len(digits) + 1)


def joined(one, other):
    """The triple of the one's text with the other's behind it."""
    return (one[0] + other[0], one[1] * other[1], one[2] * other[1] + other[2])


def told(text, digits):
    """The triple of a text."""
    base = base_of(digits)
    found = EMPTY
    for sign in text:
        found = joined(found, (1, base, digits[sign]))
    return found


def told_parts(parts, digits):
    """For each pair (row, mode) the triple of its text."""
    found = {}
    for pair, its_parts in parts.items():
        whole = EMPTY
        for part in its_parts:
            whole = joined(whole, told(part, digits) if isinstance(part, str) else found[part])
        found[pair] = whole
    return found


def five_numbers(one, other):
    """The five numbers of a tree whose two texts have these triples."""
    return (1, one[1], one[2], other[1], other[2])
