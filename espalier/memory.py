"""The memory: cells that threads read and change, one access at a time."""

from espalier.errors import NotValid
from espalier.kinds import is_whole

MOST_THREADS = 4
LEAST_PAGES = 2
MOST_PAGES = 48

EPOCH = 0
FIRST_SLOT = 1
FIRST_WORD = 5

# The four accesses, each with the number of parts that its request has.
FORMS = (("read", 2), ("write", 3), ("swap", 4), ("decide", 3))


def is_mark(value):
    """Tell whether the value of a word is a mark."""
    return isinstance(value, tuple)


def _is_between(value, least, most):
    return is_whole(value) and least <= value <= most


def _is_access(request):
    if not isinstance(request, tuple) or len(request) == 0:
        return False
    return (request[0], len(request)) in FORMS


def _first_record(page):
    if page == 0:
        return ("leaf", None, None, (), ())
    return ("free", page)


def _new_cells(layout):
    pages = range(layout.pages)
    slots = [None] * MOST_THREADS
    words = [layout.record(page) for page in pages]
    shown = [_first_record(page) for page in pages]
    unused = [None] * (layout.records - layout.pages)
    return [0] + slots + words + shown + unused


class Layout:
    """What the cells of a memory are for."""

    def __init__(self, threads, pages, records):
        if not _is_between(threads, 1, MOST_THREADS):
            raise NotValid()
        if not _is_between(pages, LEAST_PAGES, MOST_PAGES):
            raise NotValid()
        if not is_whole(records) or records < pages:
            raise NotValid()
        self.threads = threads
        self.pages = pages
        self.records = records

    def slot(self, thread):
        """Return the cell of the slot of a thread."""
        return FIRST_SLOT + thread

    def word(self, page):
        """Return the cell of the word of a page."""
        return FIRST_WORD + page

    def record(self, index):
        """Return the record cell with an index."""
        return FIRST_WORD + self.pages + index

    def cells(self):
        """Return the number of all cells."""
        return self.record(self.records)

    def is_record(self, cell):
        """Tell whether a cell is a record cell."""
        return self.record(0) <= cell < self.cells()


class Memory:
    """The cells of a layout, and the accesses that were made to them."""

    def __init__(self, layout):
        self.layout = layout
        self.count = 0
        self._cells = _new_cells(layout)
        self._accesses = []

    def access(self, thread, request):
        """Make an access; return its result and its number."""
        if not _is_access(request):
            raise NotValid()
        self._check(request[1])
        number = self.count + 1
        result = self._perform(request, number)
        self.count = number
        self._accesses.append((number, thread, request[0], request[1]))
        return (result, number)

    def peek(self, cell):
        """Return the value of a cell without an access."""
        self._check(cell)
        return self._cells[cell]

    def log(self):
        """Return the accesses made so far as (number, thread, kind, cell)."""
        return list(self._accesses)

    def _check(self, cell):
        if not _is_between(cell, 0, self.layout.cells() - 1):
            raise NotValid()

    def _perform(self, request, number):
        kind = request[0]
        cell = request[1]
        if kind == "read":
            return self._cells[cell]
        if kind == "write":
            self._cells[cell] = request[2]
            return None
        if kind == "swap":
            return self._replace(cell, request[2], request[3])
        return self._replace(cell, 0, (request[2], number))

    def _replace(self, cell, old, new):
        if self._cells[cell] != old:
            return False
        self._cells[cell] = new
        return True
