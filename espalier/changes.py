"""Changes: which pages get which new records, all at one moment."""

from espalier.answers import effect
from espalier.nodes import (
    INNER_MOST, LEAF_MOST, LEAST, bounds_of, child_bounds, cut, inner, joined, level_of,
    size_of, value_in, with_child, with_separator, with_value, without_child, without_key)
from espalier.walks import ROOT, leaf_step

STALE = ("stale",)


def plan(call, path, siblings):
    """Return the plan of a call, with the path of a walk to its key."""
    old = leaf_step(path)[2]
    before = value_in(old, call[1])
    answer, after = effect(call, before)
    if after == before:
        return ("answer", answer)
    draft = Draft(path, siblings)
    draft.carry_up(_new_leaf(old, call[1], after))
    if draft.obstacle is not None:
        return draft.obstacle
    return ("change", answer, draft.entries())


def new_pages(entries):
    """Return the number of new pages in the entries."""
    return len([entry for entry in entries if _is_new(entry[0])])


def placed(entries, pages):
    """Return the entries with these pages in the places of the new ones."""
    return [(_place(page, pages), address, _placed_record(record, pages))
            for page, address, record in entries]


def _is_new(page):
    return page < 0


def _place(page, pages):
    # The new pages are written as -1, -2, ..
    return pages[-1 - page] if _is_new(page) else page


def _placed_record(record, pages):
    if record[0] != "inner":
        return record
    return record[:5] + (tuple([_place(page, pages) for page in record[5]]),)


def _new_leaf(old, key, value):
    if value is None:
        return without_key(old, key)
    return with_value(old, key, value)


def _most(record):
    return LEAF_MOST if level_of(record) == 0 else INNER_MOST


def _with_record(step, record):
    return (step[0], step[1], record)


class Draft:
    """The new records of a change, made level by level upwards.

    `obstacle` is the plan if there can be no change with this path and these
    siblings, otherwise None.
    """

    def __init__(self, path, siblings):
        self.obstacle = None
        self._path = path
        self._siblings = siblings
        self._drafted = {}
        self._made = 0

    def carry_up(self, record):
        """Draft the new record of the leaf, and what follows from it above."""
        at = len(self._path) - 1
        while record is not None and self.obstacle is None:
            record = self._settle(at, record)
            at -= 1

    def entries(self):
        """Return the entries of the plan."""
        pages = sorted([page for page in self._drafted if not _is_new(page)])
        made = [-1 - count for count in range(self._made)]
        return [(page,) + self._drafted[page] for page in pages + made]

    def _settle(self, at, record):
        """Draft the record of a step's page; return its parent's new one, or None."""
        step = self._path[at]
        if size_of(record) > _most(record):
            return self._cut_root(record) if step[0] == ROOT else self._cut_child(at, record)
        if step[0] == ROOT:
            self._draft_root(record)
            return None
        if size_of(record) < LEAST:
            return self._put_together(at, record)
        self._draft(step, record)
        return None

    def _draft(self, step, record):
        page = step[0]
        if page in self._drafted:
            # A page that was read at two places of the tree was moved meanwhile.
            self.obstacle = STALE
        self._drafted[page] = (step[1], record)

    def _draft_new(self, record):
        self._made += 1
        page = -self._made
        self._drafted[page] = (None, record)
        return page

    def _draft_root(self, record):
        if level_of(record) > 0 and size_of(record) == 1:
            # The tree gets lower: the root becomes what its only child would be.
            child = record[5][0]
            address, record = self._drafted[child]
            self._drafted[child] = (address, ("free", child))
        self._draft(self._path[0], record)

    def _cut_root(self, record):
        low, high = bounds_of(record)
        first, separator, second = cut(record)
        left = self._draft_new(first)
        right = self._draft_new(second)
        level = level_of(record) + 1
        self._draft(self._path[0], inner(level, low, high, (separator,), (left, right)))

    def _cut_child(self, at, record):
        index = self._index(at)
        if index is None:
            return None
        first, separator, second = cut(record)
        self._draft(self._path[at], first)
        return with_child(self._path[at - 1][2], index, separator, self._draft_new(second))

    def _put_together(self, at, record):
        index = self._index(at)
        if index is None:
            return None
        parent = self._path[at - 1][2]
        other = index - 1 if index > 0 else 1
        sibling = self._sibling(parent, other, level_of(record))
        if sibling is None:
            return None
        own = _with_record(self._path[at], record)
        if other < index:
            return self._join(parent, index, sibling, own)
        return self._join(parent, other, own, sibling)

    def _join(self, parent, index, left, right):
        """Join two children; `index` is that of the right one in the parent."""
        both = joined(left[2], parent[4][index - 1], right[2])
        if size_of(both) <= _most(both):
            self._draft(left, both)
            self._draft(right, ("free", right[0]))
            return without_child(parent, index)
        first, separator, second = cut(both)
        self._draft(left, first)
        self._draft(right, second)
        return with_separator(parent, index, separator)

    def _index(self, at):
        """Return the index of a step's page in its parent, or None if it does not fit."""
        page = self._path[at][0]
        parent = self._path[at - 1][2]
        if page in parent[5]:
            index = parent[5].index(page)
            if child_bounds(parent, index) == bounds_of(self._path[at][2]):
                return index
        self.obstacle = STALE
        return None

    def _sibling(self, parent, index, level):
        """Return the step of a sibling, or None if it is not there or does not fit."""
        page = parent[5][index]
        if page not in self._siblings:
            self.obstacle = ("read", page)
            return None
        step = self._siblings[page]
        if level_of(step[2]) != level or bounds_of(step[2]) != child_bounds(parent, index):
            self.obstacle = STALE
            return None
        return step
