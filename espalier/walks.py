"""Walks: from the root down to the leaf of a key; and looks at single pages."""

from espalier.nodes import child_of, covers, level_of
from espalier.reads import Shown

ROOT = 0


def leaf_step(path):
    """Return the last step of a path."""
    return path[-1]


class Look:
    """A machine that reads a page; it ends with its step."""

    def __init__(self, layout, page):
        self._page = page
        self._shown = None
        self._wanted = ("call", Shown(layout, page))

    def request(self):
        """Return what is wanted next."""
        return self._wanted

    def accept(self, result):
        """Take the result of the last request."""
        if self._shown is None:
            self._shown = result
            self._wanted = ("read", result[0])
        else:
            address, access = self._shown
            self._wanted = ("end", (self._page, address, result[0], access))


class Walk:
    """A machine that walks to the leaf of a key; it ends with its path."""

    def __init__(self, layout, key):
        self.restarts = 0
        self._layout = layout
        self._key = key
        self._path = []
        self._wanted = ("call", Look(layout, ROOT))

    def request(self):
        """Return what is wanted next."""
        return self._wanted

    def accept(self, result):
        """Take the result of the last request, a step."""
        record = result[2]
        if not self._is_right(record):
            self.restarts += 1
            self._path = []
            self._read(ROOT)
            return
        self._path.append(result)
        if level_of(record) == 0:
            self._wanted = ("end", self._path)
        else:
            self._read(record[5][child_of(record, self._key)])

    def _read(self, page):
        self._wanted = ("call", Look(self._layout, page))

    def _is_right(self, record):
        level = level_of(record)
        if len(self._path) == 0:
            return level >= 0
        return level == level_of(leaf_step(self._path)[2]) - 1 and covers(record, self._key)
