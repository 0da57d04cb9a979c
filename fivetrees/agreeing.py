"""Certificates that two writers write every tree alike: what is asked of them."""

from math import lcm

from fivetrees.checks import is_integer
from fivetrees.errors import TooLong
from fivetrees.forms import are_just_rows, is_pair, is_tuple_of
from fivetrees.numbering import Numbering, five_numbers, told_rows
from fivetrees.states import StateGraph, product_of, start_states
from fivetrees.ways import field_modes
from fivetrees.writing import first_fitting, rules_by_pair


def _is_state(writer, other, value):
    if not is_tuple_of(value, 3) or value[0] not in writer.schema:
        return False
    name, mode, other_mode = value
    fits = mode is None or is_pair(writer, name, mode)
    return fits and (other_mode is None or is_pair(other, name, other_mode))


def _are_numbers(value, many):
    """Whether any value is a tuple of so many pairs (over, under) of integers, under above 0."""
    if not is_tuple_of(value, many):
        return False
    pairs = [is_tuple_of(pair, 2) and is_integer(pair[0]) and is_integer(pair[1]) for pair in value]
    return all(pairs) and all([under > 0 for over, under in value])


def _is_sum(row, rows, numbers):
    """Whether the row is the sum of the rows times these numbers."""
    common = 1
    for over, under in numbers:
        common = lcm(common, under)
    factors = [over * (common // under) for over, under in numbers]
    for at, number in enumerate(row):
        if sum([factor * its_row[at] for factor, its_row in zip(factors, rows)]) != common * number:
            return False
    return True


def _is_choice(schema, name, value):
    kinds = schema.constructor(name)[2]
    if not is_tuple_of(value, len(kinds)):
        return False
    for pair, kind in zip(value, kinds):
        if not is_tuple_of(pair, 2) or not isinstance(pair[0], str) or pair[0] not in schema.of_kind(kind):
            return False
        if not is_integer(pair[1]) or pair[1] < 0:
            return False
    return True


def _pieces_for(rules, mode, name, tops):
    return () if mode is None else first_fitting(rules[(mode, name)], tops)


class Agreement:
    """What a certificate lists for two writers: for each state pairs of triples, the texts of its trees."""

    def __init__(self, writer, other):
        self._writer = writer
        self._other = other
        self._numbering = Numbering(writer, other)
        self._rules = rules_by_pair(writer.rules)
        self._others = rules_by_pair(other.rules)
        self._starts = start_states(writer, other)
        self._listed = {}

    def take_list(self, state, listed):
        """Take in the rows that any values list for a state; whether they are right by themselves."""
        if not _is_state(self._writer, self._other, state) or state in self._listed or not isinstance(listed, tuple):
            return False
        found = []
        for rows in listed:
            if not are_just_rows(self._writer.schema, rows) or rows[-1][0] != state[0]:
                return False
            try:
                one = told_rows(self._numbering, self._writer, rows, state[1])
                other = told_rows(self._numbering, self._other, rows, state[2])
            except TooLong:
                return False
            found.append((one, other))
        self._listed[state] = found
        return True

    def agrees(self):
        """Whether the states of the begin are listed, with two whole texts that are the same for each tree."""
        if not all([state in self._listed for state in self._starts]):
            return False
        for state in self._starts:
            for one, other in self._listed[state]:
                whole = self._numbering.of_whole(self._writer, one)
                if whole != self._numbering.of_whole(self._other, other):
                    return False
        return True

    def many_choices(self):
        """How many choices there are for all states together, None if a state of a field is not listed."""
        graph = StateGraph(self._writer, self._other, tuple(self._listed))
        while graph.open_next() is not None:
            pass
        if len(graph.found_states) > len(self._listed):
            return None
        lists = [self._listed[state] for state in graph.found_states]
        wants = [[entry for state in want for entry in lists[state]] for want in graph.wants]
        return sum([product_of([wants[want] for want in way[1]]) for way in graph.ways])

    def fits(self, state, choice, numbers):
        """Whether any values are a state that is listed, a choice for it, and numbers with the right sum."""
        if not _is_state(self._writer, self._other, state) or state not in self._listed:
            return False
        if not _is_choice(self._writer.schema, state[0], choice):
            return False
        row = self._row(state, choice)
        rows = [five_numbers(one, other) for one, other in self._listed[state]]
        return row is not None and _are_numbers(numbers, len(rows)) and _is_sum(row, rows, numbers)

    def _row(self, state, choice):
        """The five numbers of the tree with the chosen fields, None if there is no such choice."""
        name, mode, other_mode = state
        tops = [top for top, index in choice]
        pieces = _pieces_for(self._rules, mode, name, tops)
        others = _pieces_for(self._others, other_mode, name, tops)
        modes, other_modes = field_modes(pieces, len(tops)), field_modes(others, len(tops))
        held = []
        for place, (top, index) in enumerate(choice):
            listed = self._listed[(top, modes[place], other_modes[place])]
            if index >= len(listed):
                return None
            held.append(listed[index])
        return five_numbers(
            self._numbering.of_pieces(pieces, held, 0), self._numbering.of_pieces(others, held, 1)
        )


def certifies_alike(writer, other, certificate):
    """Whether any value certifies that the writers, for equal schemas, write every tree alike."""
    if not is_tuple_of(certificate, 2):
        return False
    lists, sums = certificate
    if not isinstance(lists, tuple) or not isinstance(sums, tuple):
        return False
    agreement = Agreement(writer, other)
    for entry in lists:
        if not is_tuple_of(entry, 2) or not agreement.take_list(entry[0], entry[1]):
            return False
    if not agreement.agrees() or len(sums) != agreement.many_choices():
        return False
    seen = {}
    for entry in sums:
        if not is_tuple_of(entry, 3) or not agreement.fits(entry[0], entry[1], entry[2]):
            return False
        seen[(entry[0], entry[1])] = True
    # As many different choices as there are: each one once.
    return len(seen) == len(sums)
