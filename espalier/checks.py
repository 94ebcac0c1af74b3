"""Checks: whether a memory shows a sound tree, and what is in it."""

from espalier.errors import Broken
from espalier.nodes import (
    INNER_MOST, LEAF_MOST, LEAST, bounds_of, child_bounds, is_record, level_of, size_of)
from espalier.reads import shown_now
from espalier.walks import ROOT


def shown_records(memory):
    """Return the shown records of all pages of a memory, by page."""
    return [memory.peek(shown_now(memory, page)) for page in range(memory.layout.pages)]


def check_tree(records):
    """Return the word of the first fault of a list of records, or ""."""
    return Survey(records).fault


def tree_map(records):
    """Return the dict from keys to values of a sound list of records."""
    plain = {}
    for page in _sound_pages(records):
        record = records[page]
        if level_of(record) == 0:
            for key, value in zip(record[3], record[4]):
                plain[key] = value
    return plain


def tree_shape(records):
    """Return the list of (page, level, size) of the pages that are reached."""
    return [(page, level_of(records[page]), size_of(records[page]))
            for page in _sound_pages(records)]


def lost_cells(memory, stores):
    """Return the record cells that are neither shown nor in one of the stores."""
    layout = memory.layout
    known = {}
    for page in range(layout.pages):
        known[shown_now(memory, page)] = True
    for store in stores:
        for cell in store.free_cells():
            known[cell] = True
        for _, cells in store.waiting():
            for cell in cells:
                known[cell] = True
    cells = [layout.record(index) for index in range(layout.records)]
    return [cell for cell in cells if cell not in known]


def _sound_pages(records):
    survey = Survey(records)
    if survey.fault != "":
        raise Broken()
    return survey.pages


def _is_used(record):
    return is_record(record) and level_of(record) >= 0


def _is_size_right(page, record):
    if level_of(record) > 0:
        return LEAST <= size_of(record) <= INNER_MOST
    least = 0 if page == ROOT else LEAST
    return least <= size_of(record) <= LEAF_MOST


class Survey:
    """A look at all pages from the root on.

    `fault` is the word of the first fault, or "", and `pages` are the pages
    that were reached before it, in the order in which they were looked at.
    """

    def __init__(self, records):
        self.pages = []
        self._shown = records
        self._reached = {}
        # What is still to be looked at, the next one last: (page, bounds, level).
        # It is no recursion, as the list may lead down through any number of levels.
        self._ahead = [(ROOT, (None, None), None)]
        self.fault = self._look_at_all()

    def _look_at_all(self):
        while len(self._ahead) > 0:
            page, bounds, level = self._ahead.pop()
            fault = self._fault_at(page, bounds, level)
            if fault != "":
                return fault
            self._reached[page] = True
            self.pages.append(page)
            self._ahead.extend(self._children(self._shown[page]))
        return self._lost()

    def _fault_at(self, page, bounds, level):
        if page < 0 or page >= len(self._shown) or not _is_used(self._shown[page]):
            return "record"
        record = self._shown[page]
        if bounds_of(record) != bounds:
            return "bounds"
        if level is not None and level_of(record) != level:
            return "level"
        if not _is_size_right(page, record):
            return "size"
        return "twice" if page in self._reached else ""

    def _children(self, record):
        if level_of(record) == 0:
            return []
        rows = [(page, child_bounds(record, index), level_of(record) - 1)
                for index, page in enumerate(record[5])]
        return rows[::-1]

    def _lost(self):
        for page, record in enumerate(self._shown):
            if page not in self._reached and (not is_record(record) or level_of(record) >= 0):
                return "lost"
        return ""
