"""The search for the kept trees (point 15)."""

from heapq import heappop, heappush

from fivetrees.errors import TooManyJoins
from fivetrees.limits import MOST_JOINS, MOST_ROWS, MOST_WRITTEN
from fivetrees.numbering import Numbering, five_numbers
from fivetrees.ranking import Ranking
from fivetrees.spans import Span
from fivetrees.states import StateGraph, product_of


def _may_write(schema, rule, found):
    """Whether a string stands in the rule, or a field that may write something by what was found."""
    fields = schema.constructor(rule[1])[2]
    for piece in rule[3]:
        if isinstance(piece, str):
            return True
        if any([(piece[1], name) in found for name in schema.of_kind(fields[piece[0]])]):
            return True
    return False


def _loud_pairs(writer):
    """The pairs (mode, constructor) in which the writer may write something, as the keys of a dict."""
    found = {}
    growing = True
    while growing:
        before = len(found)
        for rule in writer.rules:
            if (rule[0], rule[1]) not in found and _may_write(writer.schema, rule, found):
                found[(rule[0], rule[1])] = True
        growing = len(found) > before
    return found


def _limits(writer, other, states):
    """How many trees can be kept at the most in each of the states."""
    loud, other_loud = _loud_pairs(writer), _loud_pairs(other)
    same = writer == other
    found = []
    for name, mode, other_mode in states:
        limit = 3 if (mode, name) in loud else 1
        # The second text brings further numbers, if it is not always the first one.
        if (other_mode, name) in other_loud and not (same and mode == other_mode):
            limit = limit + 2
        found.append(limit)
    return found


def _explored(writer, other, starts):
    """The graph of all states that occur."""
    graph = StateGraph(writer, other, starts)
    joins = 0
    many = graph.open_next()
    while many is not None:
        # In each state some tree is kept, so there is a join for each choice of tops.
        joins = joins + many
        if joins > MOST_JOINS:
            raise TooManyJoins(MOST_JOINS)
        many = graph.open_next()
    return graph


class Search:
    """Takes the joins in the order of their trees, and keeps those that are no sums of earlier ones.

    A join waits as (size, place, ranks, way, picks): the size of its tree, the place of its top, the
    ranks of its fields, its way, and for each field its index in the list of the field's want. So
    joins compare as their trees do. A join is looked at when the one that is picked like it, but one
    earlier for the last field that is not the first of its list, has been taken: what follows a join
    that no state needs is never looked at. How many joins there are is told by the lists' lengths.
    """

    def __init__(self, writer, other, starts):
        graph = _explored(writer, other, starts)
        many = len(graph.found_states)
        self.graph = graph
        self.ranking = Ranking(writer.schema)
        self.held = [[] for state in range(many)]
        self.order = []
        self._limits = _limits(writer, other, graph.found_states)
        self._spans = [Span() for state in range(many)]
        self._places = [writer.schema.place(state[0]) for state in graph.found_states]
        self._askers = [[] for state in range(many)]
        self._users = [[] for want in graph.wants]
        self._lists = [[] for want in graph.wants]
        self._waiting = [[] for want in graph.wants]
        self._queue = []
        self._joins = 0
        self._counts = [0 for way in graph.ways]
        self.numbering = Numbering(writer, other)
        self._prepare()

    def _prepare(self):
        for want, states in enumerate(self.graph.wants):
            for state in states:
                self._askers[state].append(want)
        for way, row in enumerate(self.graph.ways):
            for want in row[1]:
                if way not in self._users[want]:
                    self._users[want].append(way)

    def run(self):
        """Keep all trees that are kept."""
        for way in range(len(self.graph.ways)):
            self._count(way)
            self._offer(way, (0,) * len(self.graph.ways[way][1]))
        while self._queue:
            self._take(heappop(self._queue))

    def _count(self, way):
        """Count the joins of the way anew."""
        count = product_of([self._lists[want] for want in self.graph.ways[way][1]])
        self._joins = self._joins + count - self._counts[way]
        self._counts[way] = count
        if self._joins > MOST_JOINS:
            raise TooManyJoins(MOST_JOINS)

    def _is_full(self, state):
        return len(self.held[state]) == self._limits[state]

    def _offer(self, way, picks):
        """Let the join with these picks wait in the queue, or until there are trees for them."""
        state, fields = self.graph.ways[way][0], self.graph.ways[way][1]
        if self._is_full(state):
            return
        ranks = []
        size = 1
        for want, pick in zip(fields, picks):
            known = self._lists[want]
            if pick == len(known):
                self._waiting[want].append((way, picks))
                return
            ranks.append(known[pick][0])
            size = size + known[pick][1]
        heappush(self._queue, (size, self._places[state], tuple(ranks), way, picks))

    def _take(self, join):
        size, place, ranks, way, picks = join
        state, fields, pieces, others = self.graph.ways[way]
        if self._is_full(state):
            return
        held = [self._lists[want][pick] for want, pick in zip(fields, picks)]
        one = self.numbering.of_pieces(pieces, held, 2)
        other = self.numbering.of_pieces(others, held, 3)
        # The first tree of a state is kept, and where one is enough nothing is compared with it.
        if self._limits[state] == 1 or self._spans[state].widen(five_numbers(one, other)):
            self._keep(state, self._rank(size, place, ranks), one, other)
        last = max([0, *[at for at, pick in enumerate(picks) if pick > 0]])
        for at in range(last, len(picks)):
            self._offer(way, picks[:at] + (picks[at] + 1,) + picks[at + 1:])

    def _rank(self, size, place, ranks):
        rank = self.ranking.rank(size, place, ranks)
        # The rows of a kept tree are kept trees too, so fewer of these have no more rows.
        if rank >= MOST_ROWS and len(self.ranking.parts(rank)) > MOST_ROWS:
            raise TooManyJoins(MOST_JOINS)
        return rank

    def _keep(self, state, rank, one, other):
        if max(one[0], other[0]) > MOST_WRITTEN:
            raise TooManyJoins(MOST_JOINS)
        entry = (rank, self.ranking.sizes[rank], one, other)
        self.held[state].append(entry)
        self.order.append((state, rank))
        for want in self._askers[state]:
            self._lists[want].append(entry)
            for way in self._users[want]:
                self._count(way)
        for want in self._askers[state]:
            waiting = list(self._waiting[want])
            self._waiting[want] = []
            for way, picks in waiting:
                self._offer(way, picks)


def searched(writer, other, starts):
    """A search that has found all kept trees."""
    search = Search(writer, other, starts)
    search.run()
    return search


def kept_trees(writer, other, starts):
    """The pairs (state, tree) of the trees kept in the states that occur from these on, in their order."""
    search = searched(writer, other, starts)
    states = search.graph.found_states
    return tuple([(states[state], search.ranking.built(rank)) for state, rank in search.order])
