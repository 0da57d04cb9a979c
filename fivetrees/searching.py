"""The search for the kept trees (point 15)."""

from heapq import heappop, heappush

from fivetrees.errors import TooManyJoins, TooManyRows
from fivetrees.limits import MOST_JOINS, MOST_WRITTEN
from fivetrees.numbering import EMPTY, digits_of, five_numbers, joined, told
from fivetrees.spans import Span
from fivetrees.states import explored
from fivetrees.trees import Tree


def _users(many, ways):
    """For each of so many states the numbers of the ways on which a field has it."""
    found = [[] for number in range(many)]
    for number, way in enumerate(ways):
        for state in range(many):
            if state in way[1]:
                found[state].append(number)
    return found


class Search:
    """Takes the joins in the order of their trees, and keeps those that are no sums of earlier ones.

    A join waits as (size, place, ranks, way, picks): the size of its tree, the place of its top, the
    ranks of its fields among all kept trees in their order, its way, and for each field its index
    among the trees kept in the field's state. So joins compare as their trees do.
    """

    def __init__(self, writer, other, starts):
        self.schema_used = writer.schema
        self.digits = digits_of(writer, other)
        self.found_states, self.ways = explored(writer, other, starts)
        many = len(self.found_states)
        self.users = _users(many, self.ways)
        self.spans = [Span() for number in range(many)]
        self.held = [[] for number in range(many)]
        self.ranked = []
        self.ranks = {}
        self.waiting = []
        self.joins = 0
        self.order = []

    def run(self):
        """Keep all trees that are kept; return the pairs (state, tree) in the order of the trees."""
        for number, way in enumerate(self.ways):
            if not way[1]:
                self._await(number, ())
        while self.waiting:
            self._take(heappop(self.waiting))
        return tuple(self.order)

    def _await(self, number, picks):
        self.joins += 1
        if self.joins > MOST_JOINS:
            raise TooManyJoins(MOST_JOINS)
        state, fields = self.ways[number][0], self.ways[number][1]
        ranks = tuple([self.held[field][pick][0] for field, pick in zip(fields, picks)])
        size = 1 + sum([self.ranked[rank].size for rank in ranks])
        place = self.schema_used.place(self.found_states[state][0])
        heappush(self.waiting, (size, place, ranks, number, picks))

    def _told_text(self, pieces, held, side):
        """The triple of the text of pieces, where these are held for the fields, for one writer."""
        found = EMPTY
        for piece in pieces:
            if isinstance(piece, str):
                found = joined(found, told(piece, self.digits))
            else:
                found = joined(found, held[piece[0]][side])
        return found

    def _take(self, join):
        place, ranks, number, picks = join[1:]
        state, fields, pieces, others = self.ways[number]
        held = [self.held[field][pick] for field, pick in zip(fields, picks)]
        one, other = self._told_text(pieces, held, 1), self._told_text(others, held, 2)
        if not self.spans[state].widen(five_numbers(one, other)):
            return
        if max(one[0], other[0]) > MOST_WRITTEN:
            raise TooManyJoins(MOST_JOINS)
        rank = self._rank(place, ranks)
        self.held[state].append((rank, one, other))
        self.order.append((self.found_states[state], self.ranked[rank]))
        for user in self.users[state]:
            for new_picks in self._new_picks(self.ways[user][1], state):
                self._await(user, new_picks)

    def _rank(self, place, ranks):
        """The rank of the tree with this top and fields, which is now kept in some state."""
        if (place, ranks) not in self.ranks:
            fields = [self.ranked[rank] for rank in ranks]
            try:
                tree = Tree(self.schema_used, self.schema_used.names[place], *fields)
            except TooManyRows:
                raise TooManyJoins(MOST_JOINS) from None
            self.ranks[(place, ranks)] = len(self.ranked)
            self.ranked.append(tree)
        return self.ranks[(place, ranks)]

    def _new_picks(self, fields, state):
        """The indexes of trees for fields of these states of which one is the newest of the state."""
        newest = len(self.held[state]) - 1
        found = [((), False)]
        for field in fields:
            found = [
                ((*picks, pick), new or (field == state and pick == newest))
                for picks, new in found
                for pick in range(len(self.held[field]))
            ]
        return [picks for picks, new in found if new]


def kept_trees(writer, other, starts):
    """The pairs (state, tree) of the trees kept in the states that occur from these on, in their order."""
    search = Search(writer, other, starts)
    return search.run()
