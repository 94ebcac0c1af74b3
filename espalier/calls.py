"""Calls: what a thread can ask of the tree, and the machines that do it."""

from espalier.changes import new_pages, placed, plan
from espalier.deeds import Doing, deed_record, is_done
from espalier.epochs import Entering, Leaving
from espalier.kinds import is_whole
from espalier.nodes import level_of
from espalier.scans import Scan
from espalier.walks import Look, Walk, leaf_step

# The words of the calls, each with the number of parts of the call.
FORMS = (("look", 2), ("put", 3), ("add", 3), ("change", 4), ("take", 2), ("scan", 3))


def is_call(call):
    """Tell whether a value, which may be anything, is a call."""
    if not isinstance(call, tuple) or len(call) == 0:
        return False
    if not isinstance(call[0], str) or (call[0], len(call)) not in FORMS:
        return False
    return all([is_whole(part) for part in call[1:]])


def machine_of(store, call):
    """Return the machine of a call."""
    if call[0] == "scan":
        return Scan(store, call[1], call[2])
    return KeyCall(store, call)


class Change:
    """A change, with the cells and the pages that were taken for it."""

    def __init__(self, answer, entries, fresh_cells, fresh_pages):
        marks = dict(fresh_pages)
        rows = placed(entries, [page for page, _ in fresh_pages])
        self.answer = answer
        self.status = fresh_cells[-2]
        self.deed = fresh_cells[-1]
        self.record_cells = fresh_cells[:-2]
        self.fresh_pages = fresh_pages
        self._rows = sorted([
            (page, marks.get(page, address), record) for page, address, record in rows])

    def writes(self, layout):
        """Return the requests that write all of it, the deed's record last."""
        placings = list(zip(self._rows, self.record_cells))
        swaps = [(layout.word(row[0]), row[1], cell) for row, cell in placings]
        requests = [("write", cell, row[2]) for row, cell in placings]
        requests.append(("write", self.status, 0))
        requests.append(("write", self.deed, deed_record(self.status, swaps)))
        return requests

    def old_cells(self):
        """Return the cells of the old addresses, ascending."""
        return sorted([row[1] for row in self._rows])

    def freed_pages(self):
        """Return the pages that become free as (page, mark address)."""
        return [(row[0], cell) for row, cell in zip(self._rows, self.record_cells)
                if level_of(row[2]) < 0]


class KeyCall:
    """The machine of a call other than a scan; it ends with (answer, witness)."""

    def __init__(self, store, call):
        self.done = None
        self.status = None
        self._store = store
        self._call = call
        self._path = []
        self._siblings = {}
        self._change = None
        self._writes = []
        self._outcome = None
        self._wanted = ("call", Entering(store))
        self._then = self._take_entering

    def request(self):
        """Return what is wanted next."""
        return self._wanted

    def accept(self, result):
        """Take the result of the last request."""
        then = self._then
        then(result)

    def _want(self, request, then):
        self._wanted = request
        self._then = then

    def _take_entering(self, result):
        self._walk()

    def _walk(self):
        self._siblings = {}
        self._want(("call", Walk(self._store.layout, self._call[1])), self._take_path)

    def _take_path(self, result):
        self._path = result
        self._ask_plan()

    def _take_sibling(self, result):
        self._siblings[result[0]] = result
        self._ask_plan()

    def _ask_plan(self):
        found = plan(self._call, self._path, self._siblings)
        if found[0] == "answer":
            self._leave(found[1], leaf_step(self._path)[3])
        elif found[0] == "read":
            self._want(("call", Look(self._store.layout, found[1])), self._take_sibling)
        elif found[0] == "stale":
            self._walk()
        else:
            self._prepare(found[1], found[2])

    def _prepare(self, answer, entries):
        taken = self._store.take(len(entries) + 2, new_pages(entries))
        if taken is None:
            self._leave("full", None)
            return
        self._change = Change(answer, entries, taken[0], taken[1])
        self._writes = self._change.writes(self._store.layout)
        self._write_next(None)

    def _write_next(self, result):
        if len(self._writes) > 0:
            self._want(self._writes.pop(0), self._write_next)
            return
        # Not before: an old value of the status cell would tell of another deed.
        self.status = self._change.status
        self._want(("call", Doing(self._change.deed)), self._take_deed)

    def _take_deed(self, result):
        change = self._change
        self.status = None
        if is_done(result):
            self.done = result[1]
            self._store.take_out(change.old_cells() + [change.status, change.deed])
            self._store.give_back([], change.freed_pages())
            self._leave(change.answer, result[1])
        else:
            # The deed never showed these cells, but helpers may still read its own.
            self._store.give_back(change.record_cells, change.fresh_pages)
            self._store.take_out([change.status, change.deed])
            self._walk()

    def _leave(self, answer, witness):
        self._outcome = (answer, witness)
        self._want(("call", Leaving(self._store)), self._take_leaving)

    def _take_leaving(self, result):
        self._want(("end", self._outcome), None)
