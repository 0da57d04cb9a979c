"""Workshops: writers that are changed under the guard that every tree goes on being written as before."""

from fivetrees.deciding import first_unlike
from fivetrees.errors import Busy, InvalidDeed, NothingToUndo, Refused, TooManyDeeds, Unlike
from fivetrees.modes import lean
from fivetrees.writers import check_writer

# How many parts a deed with this word has.
LENGTHS = {"put": 3, "drop": 2, "using": 3, "exchange": 4, "lean": 1}


def _is_deed(value):
    if not isinstance(value, tuple) or not value or not isinstance(value[0], str):
        return False
    return value[0] in LENGTHS and len(value) == LENGTHS[value[0]]


def _changed(writer, deed):
    """What the deed makes of the writer."""
    word, rest = deed[0], deed[1:]
    if word == "put":
        return writer.with_rule(rest[0], rest[1])
    if word == "drop":
        return writer.without_rule(rest[0])
    if word == "using":
        return writer.using(rest[0], rest[1])
    if word == "exchange":
        return writer.exchanged(rest[0], rest[1], rest[2])
    return lean(writer)


class Trial:
    """A block in which a workshop is tried out: at its end the workshop is as at its beginning."""

    def __init__(self, shop):
        self._shop = shop
        self._kept = None

    def __enter__(self):
        self._kept = self._shop.state
        return self._shop

    def __exit__(self, kind, value, trace):
        shop = self._shop
        shop.state = self._kept


class Workshop:
    """A writer that is changed by deeds, and writes every tree as the first one did.

    The state is a triple: the writer, the deeds, and the writers ahead of them. As it is only ever
    exchanged as a whole, what was kept of it stays.
    """

    MOST = 100

    def __init__(self, writer):
        check_writer(writer)
        self._first = writer
        self._busy = False
        self.state = (writer, (), ())

    @property
    def writer(self):
        """The writer as it is now."""
        return self.state[0]

    @property
    def first(self):
        """The first writer."""
        return self._first

    @property
    def log(self):
        """The deeds that were done, as they were passed."""
        return self.state[1]

    @property
    def busy(self):
        """Whether several deeds are being done."""
        return self._busy

    def _check_free(self):
        if self._busy:
            raise Busy()

    def _take(self, deed):
        """Do what is a deed."""
        writer, log, past = self.state
        if len(log) >= Workshop.MOST:
            raise TooManyDeeds(Workshop.MOST)
        new = _changed(writer, deed)
        tree = first_unlike(self._first, new)
        if tree is not None:
            raise Refused(deed, tree) from Unlike(tree)
        self.state = (new, (*log, deed), (*past, writer))

    def do(self, deed):
        """Do the deed."""
        self._check_free()
        if not _is_deed(deed):
            raise InvalidDeed(0)
        self._take(deed)

    def do_all(self, *deeds, watch=None):
        """Do all deeds in their order, or none; behind each one the watch is called."""
        self._check_free()
        for index, deed in enumerate(deeds):
            if not _is_deed(deed):
                raise InvalidDeed(index)
        state = self.state
        self._busy = True
        try:
            for index, deed in enumerate(deeds):
                self._take(deed)
                if watch is not None:
                    watch(self, index)
            state = self.state
        finally:
            self.state = state
            self._busy = False

    def undo(self):
        """Take back the last deed."""
        self._check_free()
        _, log, past = self.state
        if not log:
            raise NothingToUndo()
        self.state = (past[-1], log[:-1], past[:-1])

    def trial(self):
        """A block, at the end of which writer and log are as at its beginning."""
        self._check_free()
        return Trial(self)

    def __len__(self):
        return len(self.state[1])


def attempt(workshop, act):
    """What act returns for the workshop, which then is as before."""
    with workshop.trial() as same:
        return act(same)
