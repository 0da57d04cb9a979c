"""States of two writers: which ones occur, and what leads from one to those of the fields (point 14)."""

from fivetrees.errors import TooManyJoins
from fivetrees.limits import MOST_JOINS
from fivetrees.writing import first_fitting, rules_for


def start_states(writer, other):
    """The states of the constructors of the root kind with the two start modes."""
    schema = writer.schema
    return tuple([(name, writer.start, other.start) for name in schema.of_kind(schema.root)])


def _choices_of_tops(schema, kinds):
    found = [()]
    for kind in kinds:
        found = [(*tops, name) for tops in found for name in schema.of_kind(kind)]
    return found


def _pieces_for(pairs, tops):
    # Without a mode, and so without rules, nothing is written.
    return first_fitting(pairs, tops) if pairs else ()


def _field_modes(pieces, many):
    """The modes in which the pieces write so many fields, None for those that they do not write."""
    modes = [None] * many
    for piece in pieces:
        if not isinstance(piece, str):
            modes[piece[0]] = piece[1]
    return modes


def _ways(writer, other, state):
    """For each choice of tops: the fields' states, and the pieces that both writers write."""
    name, mode, other_mode = state
    kinds = writer.schema.constructor(name)[2]
    pairs = rules_for(writer.rules, mode, name)
    other_pairs = rules_for(other.rules, other_mode, name)
    found = []
    for tops in _choices_of_tops(writer.schema, kinds):
        pieces, others = _pieces_for(pairs, tops), _pieces_for(other_pairs, tops)
        modes, other_modes = _field_modes(pieces, len(kinds)), _field_modes(others, len(kinds))
        found.append((tuple(zip(tops, modes, other_modes)), pieces, others))
    return found


def explored(writer, other, starts):
    """The states that occur from these on, and the ways from each to those of its fields.

    A way is (number of the state, numbers of the fields' states, pieces, pieces of the other).
    """
    numbers = {state: number for number, state in enumerate(starts)}
    states = list(starts)
    ways = []
    place = 0
    while place < len(states):
        for fields, pieces, others in _ways(writer, other, states[place]):
            for state in fields:
                if state not in numbers:
                    numbers[state] = len(states)
                    states.append(state)
            ways.append((place, tuple([numbers[state] for state in fields]), pieces, others))
        # In each state some tree is kept, so each way leads to one join at least.
        if len(ways) > MOST_JOINS:
            raise TooManyJoins(MOST_JOINS)
        place += 1
    return states, ways
