"""Reading words: the shown value of a page's word, with a moment of it."""

from espalier.deeds import is_done
from espalier.memory import is_mark


def _shown_by(mark, status):
    return mark[3] if is_done(status) else mark[2]


def shown_now(memory, page):
    """Return the shown value of a page's word between two accesses."""
    value = memory.peek(memory.layout.word(page))
    if is_mark(value):
        return _shown_by(value, memory.peek(value[1]))
    return value


class Shown:
    """A machine that reads the word of a page; it ends with (address, access)."""

    def __init__(self, layout, page):
        self._wanted = ("read", layout.word(page))
        self._mark = None
        self._first = None

    def request(self):
        """Return what is wanted next."""
        return self._wanted

    def accept(self, result):
        """Take the result of the last request."""
        value, number = result
        if self._mark is not None:
            self._take_status(value)
        elif is_mark(value):
            self._mark = value
            self._first = number
            self._wanted = ("read", value[1])
        else:
            self._wanted = ("end", (value, number))

    def _take_status(self, status):
        access = self._first
        if is_done(status):
            # Before the decision, which may come behind the first access,
            # the word showed the old address.
            access = max(access, status[1])
        self._wanted = ("end", (_shown_by(self._mark, status), access))
