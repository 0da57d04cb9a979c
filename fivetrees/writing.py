"""Writing trees by their rows, so that what is shared is looked at once."""


def rules_by_pair(rules):
    """For each pair (mode, constructor) the pairs (looks, pieces) of its rules, in their order."""
    found = {}
    for mode, name, looks, pieces in rules:
        found.setdefault((mode, name), []).append((looks, pieces))
    return found


def is_general(looks):
    """Whether a rule with these looks fits each tree with its constructor on top."""
    return all([look is None for look in looks])


def _fits(looks, tops):
    return all([look is None or top in look for look, top in zip(looks, tops)])


def first_fitting(pairs, tops):
    """The pieces of the first rule that fits a tree whose fields have these tops."""
    for looks, pieces in pairs:
        if _fits(looks, tops):
            return pieces
    return None


def _parts_of_row(table, rows, number, mode):
    """What is written for the row: strings, and for fields pairs (row, mode)."""
    name, numbers = rows[number]
    tops = [rows[at][0] for at in numbers]
    pieces = first_fitting(table[(mode, name)], tops)
    return tuple([piece if isinstance(piece, str) else (numbers[piece[0]], piece[1]) for piece in pieces])


def parts_of(rules, rows, mode):
    """For each pair (row, mode) that is written, what is written for it; those of fields come first."""
    table = rules_by_pair(rules)
    wanted = [[] for row in rows]
    wanted[-1].append(mode)
    found = {}
    for number in reversed(range(len(rows))):
        for its_mode in list(wanted[number]):
            parts = _parts_of_row(table, rows, number, its_mode)
            found[(number, its_mode)] = parts
            for part in parts:
                if not isinstance(part, str) and part[1] not in wanted[part[0]]:
                    wanted[part[0]].append(part[1])
    return {pair: found[pair] for pair in reversed(list(found))}


def lengths_of(parts):
    """For each pair (row, mode) the length of its text."""
    found = {}
    for pair, its_parts in parts.items():
        found[pair] = sum([len(part) if isinstance(part, str) else found[part] for part in its_parts])
    return found


def texts_of(parts, lengths, most):
    """The texts that have at most so many signs, by their pairs (row, mode)."""
    found = {}
    for pair, its_parts in parts.items():
        if lengths[pair] <= most:
            found[pair] = "".join([part if isinstance(part, str) else found[part] for part in its_parts])
    return found


def text_of(rules, rows, mode):
    """The text of the rows in the mode, whatever its length."""
    parts = parts_of(rules, rows, mode)
    lengths = lengths_of(parts)
    top = (len(rows) - 1, mode)
    return texts_of(parts, lengths, lengths[top])[top]
