"""Trees that are found in their order, each one told by its rank."""

from fivetrees.errors import TooManyRows
from fivetrees.limits import MOST_ROWS
from fivetrees.trees import Tree


class Ranking:
    """Trees by their ranks: who comes first in the order of trees has the smaller rank.

    A tree is told by the place of its top among the constructors, and the ranks of its fields.
    """

    def __init__(self, schema):
        self._schema = schema
        self._known = {}
        self._made = {}
        self.told = []
        self.sizes = []

    def rank(self, size, place, ranks):
        """The rank of the tree of this size; if it is new, it comes behind all others."""
        if (place, ranks) not in self._known:
            self._known[(place, ranks)] = len(self.told)
            self.told.append((place, ranks))
            self.sizes.append(size)
        return self._known[(place, ranks)]

    def parts(self, rank):
        """The ranks of the rows of the tree with this rank, ascending."""
        needed = {rank: True}
        for at in reversed(range(rank + 1)):
            if at in needed:
                for field in self.told[at][1]:
                    needed[field] = True
        return sorted(needed)

    def built(self, rank):
        """The tree with this rank."""
        parts = self.parts(rank)
        if len(parts) > MOST_ROWS:
            raise TooManyRows(MOST_ROWS)
        for at in parts:
            if at not in self._made:
                place, ranks = self.told[at]
                fields = [self._made[field] for field in ranks]
                self._made[at] = Tree(self._schema, self._schema.names[place], *fields)
        return self._made[rank]
