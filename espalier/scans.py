"""Scans: all items between two keys, as they are at one moment."""

from espalier.epochs import Entering, Leaving
from espalier.nodes import bounds_of
from espalier.walks import Look, Walk, leaf_step

ROUNDS = 4


def rows_between(records, low, high):
    """Return the list of (key, value) with low <= key < high of leaf records."""
    return [(key, value) for record in records for key, value in zip(record[3], record[4])
            if low <= key < high]


class Scan:
    """A machine that scans; it ends with (answer, witness)."""

    def __init__(self, store, low, high):
        self._store = store
        self._low = low
        self._high = high
        self._failed = 0
        self._key = low
        self._kept = []
        self._seen = 0
        self._outcome = ("busy", None)
        self._wanted = ("call", Entering(store))
        self._then = self._take_entering

    def request(self):
        """Return what is wanted next."""
        return self._wanted

    def accept(self, result):
        """Take the result of the last request."""
        then = self._then
        then(result)

    def _want(self, request, then):
        self._wanted = request
        self._then = then

    def _take_entering(self, result):
        self._begin_round()

    def _begin_round(self):
        self._kept = []
        self._seen = 0
        self._walk_to(self._low)

    def _walk_to(self, key):
        self._key = key
        self._want(("call", Walk(self._store.layout, key)), self._take_path)

    def _take_path(self, result):
        step = leaf_step(result)
        low, high = bounds_of(step[2])
        if len(self._kept) > 0 and low != self._key:
            self._fail_round()
            return
        self._kept.append(step)
        if high is not None and high < self._high:
            self._walk_to(high)
        else:
            self._look_again()

    def _look_again(self):
        if self._seen == len(self._kept):
            self._succeed()
        else:
            page = self._kept[self._seen][0]
            self._want(("call", Look(self._store.layout, page)), self._take_look)

    def _take_look(self, result):
        if result[1] == self._kept[self._seen][1]:
            self._seen += 1
            self._look_again()
        else:
            self._fail_round()

    def _succeed(self):
        records = [step[2] for step in self._kept]
        witness = leaf_step(self._kept)[3]
        self._outcome = (rows_between(records, self._low, self._high), witness)
        self._leave()

    def _fail_round(self):
        self._failed += 1
        if self._failed == ROUNDS:
            self._leave()
        else:
            self._begin_round()

    def _leave(self):
        self._want(("call", Leaving(self._store)), self._take_leaving)

    def _take_leaving(self, result):
        self._want(("end", self._outcome), None)
