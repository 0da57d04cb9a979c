"""The search for the first trees of which the texts have a certain value.

A measure tells which values the text of a part can have, and how they go together:

- `empty()`: the values of the empty text;
- `longer(value, string)`: the value with the string behind it, None if that is none;
- `followed(one, other)`: the value of a text with another one behind it;
- `end(one)` and `begin(other)` are equal where the other one can stand behind the one.
"""

from heapq import heappop, heappush

from fivetrees.grammars import Grammar
from fivetrees.ranking import Ranking


class Finder:
    """Finds for each pair (constructor, mode) and each value the first trees, as many as are asked for.

    Trees are told by ranks. The search goes by size, as trees are ordered. What is found on the way:
    dots, which are nodes with a value and the ranks of the fields that were passed (-1 for the
    others), and marks, which are wants with a value and a rank.
    """

    def __init__(self, writer, measure, most):
        self.schema_used = writer.schema
        self.grammar = Grammar(writer)
        self.measure = measure
        self.most = most
        self.ranking = Ranking(writer.schema)
        self.found_pairs = {}
        self.found_marks = {}
        self._dot_counts = {}
        self._dots = [{} for node in self.grammar.nodes]
        self._marks = [{} for want in self.grammar.wants]
        self._users = [[] for want in self.grammar.wants]
        self._askers = [[] for pair in self.grammar.pairs]
        self._layers = {}
        self._queue = []
        self._prepare()

    def _prepare(self):
        grammar = self.grammar
        numbers = {pair: number for number, pair in enumerate(grammar.pairs)}
        for want, (tops, mode) in enumerate(grammar.wants):
            for name in tops:
                self._askers[numbers[(name, mode)]].append(want)
        for node, (_, steps) in enumerate(grammar.nodes):
            for want, field, target, string in steps:
                self._users[want].append((node, field, target, string))
        for node, string in grammar.starts:
            name = grammar.pairs[grammar.nodes[node][0]][0]
            ranks = (-1,) * len(self.schema_used.constructor(name)[2])
            for value in self.measure.empty():
                longer = self.measure.longer(value, string)
                if longer is not None:
                    self._take_dot(node, longer, 0, ranks)

    def advance(self):
        """Find all trees of the next size; False if there is nothing left to be found."""
        if not self._queue:
            return False
        size = heappop(self._queue)
        dots, grown = self._layers.pop(size)
        for ranks, node, value in sorted(dots):
            self._take_dot(node, value, size, ranks)
        for place, ranks, pair, value in sorted(grown):
            self._take_tree(size, place, ranks, pair, value)
        return True

    def _layer(self, size):
        """The dots and the trees that wait with this size."""
        if size not in self._layers:
            self._layers[size] = ([], [])
            heappush(self._queue, size)
        return self._layers[size]

    def _take_dot(self, node, value, size, ranks):
        count = self._dot_counts.get((node, value), 0)
        if count == self.most:
            return
        self._dot_counts[(node, value)] = count + 1
        pair, steps = self.grammar.nodes[node]
        if not steps:
            place = self.schema_used.place(self.grammar.pairs[pair][0])
            self._layer(size + 1)[1].append((place, ranks, pair, value))
            return
        dot = (value, size, ranks, count)
        end = self.measure.end(value)
        self._dots[node].setdefault(end, []).append(dot)
        for want, field, target, string in steps:
            for mark in self._marks[want].get(end, []):
                self._join(dot, mark, field, target, string)

    def _take_tree(self, size, place, ranks, pair, value):
        known = self.found_pairs.setdefault((pair, value), [])
        if len(known) == self.most:
            return
        rank = self.ranking.rank(size, place, ranks)
        known.append(rank)
        for want in self._askers[pair]:
            self._take_mark(want, value, rank)

    def _take_mark(self, want, value, rank):
        ranks = self.found_marks.setdefault((want, value), [])
        if len(ranks) == self.most:
            return
        ranks.append(rank)
        mark = (value, rank, len(ranks) - 1)
        begin = self.measure.begin(value)
        self._marks[want].setdefault(begin, []).append(mark)
        for node, field, target, string in self._users[want]:
            for dot in self._dots[node].get(begin, []):
                self._join(dot, mark, field, target, string)

    def _join(self, dot, mark, field, target, string):
        """Let the dot with the mark's tree in this field wait, if it can be among the first ones."""
        one, size, ranks, count = dot
        other, rank, place = mark
        # All pairs of an earlier dot or the same one with an earlier mark or the same one come before.
        if (count + 1) * (place + 1) > self.most:
            return
        value = self.measure.followed(one, other)
        if string:
            value = self.measure.longer(value, string)
        if value is None or self._dot_counts.get((target, value), 0) == self.most:
            return
        size = size + self.ranking.sizes[rank]
        self._layer(size)[0].append((ranks[:field] + (rank,) + ranks[field + 1:], target, value))
