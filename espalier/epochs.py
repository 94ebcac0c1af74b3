"""Epochs: when a cell that was taken out of the tree can be taken anew."""

from espalier.memory import EPOCH

# By so much the known epoch must be greater than a stamp.
AGE = 3


def _own(thread, threads, first, end):
    return [number for number in range(first, end) if number % threads == thread]


class Store:
    """What a thread has: free cells, free pages, and cells that wait."""

    def __init__(self, layout, thread):
        self.layout = layout
        self.thread = thread
        cells = _own(thread, layout.threads, layout.pages, layout.records)
        pages = _own(thread, layout.threads, 1, layout.pages)
        self._cells = [layout.record(index) for index in cells]
        self._pages = [(page, layout.record(page)) for page in pages]
        self._taken_out = []
        self._stamped = []

    def take(self, cells, pages):
        """Take the least free cells and pages, so many of each, or None."""
        if cells > len(self._cells) or pages > len(self._pages):
            return None
        taken = (self._cells[:cells], self._pages[:pages])
        self._cells = self._cells[cells:]
        self._pages = self._pages[pages:]
        return taken

    def give_back(self, cells, pages):
        """Make cells and pages free that nobody can still read."""
        self._cells = sorted(self._cells + list(cells))
        self._pages = sorted(self._pages + list(pages))

    def take_out(self, cells):
        """Note cells that the present call has taken out of the tree."""
        self._taken_out = self._taken_out + list(cells)

    def free_cells(self):
        """Return the free cells."""
        return list(self._cells)

    def free_pages(self):
        """Return the free pages as (page, mark address)."""
        return list(self._pages)

    def waiting(self):
        """Return what waits as (stamp, cells), oldest first."""
        rows = [(stamp, list(cells)) for stamp, cells in self._stamped]
        if self.has_taken_out():
            rows.append((None, list(self._taken_out)))
        return rows

    def has_taken_out(self):
        """Tell whether the present call has taken something out."""
        return len(self._taken_out) > 0

    def has_waiting(self):
        """Tell whether something waits."""
        return len(self.waiting()) > 0

    def set_stamp(self, epoch):
        """Give the cells that the present call has taken out their stamp."""
        self._stamped = self._stamped + [(epoch, self._taken_out)]
        self._taken_out = []

    def set_known(self, epoch):
        """Make the cells free that are old enough at an epoch."""
        for stamp, cells in self._stamped:
            if stamp <= epoch - AGE:
                self.give_back(cells, [])
        self._stamped = [row for row in self._stamped if row[0] > epoch - AGE]


class Entering:
    """A machine that enters a call; it ends with the epoch."""

    def __init__(self, store):
        self._slot = store.layout.slot(store.thread)
        self._epoch = None
        self._wanted = ("read", EPOCH)

    def request(self):
        """Return what is wanted next."""
        return self._wanted

    def accept(self, result):
        """Take the result of the last request."""
        if self._wanted[0] == "write":
            self._wanted = ("read", EPOCH)
        elif result[0] == self._epoch:
            self._wanted = ("end", self._epoch)
        else:
            # The slot must hold an epoch that was still valid behind the write.
            self._epoch = result[0]
            self._wanted = ("write", self._slot, self._epoch)


class Leaving:
    """A machine that leaves a call; it ends with None."""

    def __init__(self, store):
        self._store = store
        self._slot = store.layout.slot(store.thread)
        self._others = [
            thread for thread in range(store.layout.threads) if thread != store.thread]
        self._at = 0
        self._epoch = None
        self._wanted = None
        self._then = self._take_first

    def request(self):
        """Return what is wanted next."""
        if self._wanted is not None:
            return self._wanted
        # Only now is it known what the call has taken out.
        if self._store.has_taken_out():
            return ("read", EPOCH)
        return ("write", self._slot, None)

    def accept(self, result):
        """Take the result of the last request."""
        then = self._then
        then(result)

    def _want(self, request, then):
        self._wanted = request
        self._then = then

    def _take_first(self, result):
        if self._store.has_taken_out():
            self._store.set_stamp(result[0])
            self._want(("write", self._slot, None), self._take_leave)
        else:
            self._take_leave(result)

    def _take_leave(self, result):
        if self._store.has_waiting():
            self._want(("read", EPOCH), self._take_epoch)
        else:
            self._want(("end", None), None)

    def _take_epoch(self, result):
        self._epoch = result[0]
        self._read_slot()

    def _read_slot(self):
        if self._at == len(self._others):
            self._want(("swap", EPOCH, self._epoch, self._epoch + 1), self._take_swap)
        else:
            slot = self._store.layout.slot(self._others[self._at])
            self._want(("read", slot), self._take_slot)

    def _take_slot(self, result):
        if result[0] is None or result[0] == self._epoch:
            self._at += 1
            self._read_slot()
        else:
            self._end(self._epoch)

    def _take_swap(self, result):
        # If it did not succeed, the epoch is greater, but by how much is unknown.
        self._end(self._epoch + 1 if result[0] else self._epoch)

    def _end(self, known):
        self._store.set_known(known)
        self._want(("end", None), None)
