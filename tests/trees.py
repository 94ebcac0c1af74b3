"""Trees for tests: trees outside of a memory, trees put into one, and what is exact.

What is exact is told here by the words of points [26] to [28] alone, without
the functions of the package, so that the tests do not ask the program itself.
"""

from espalier.changes import placed, plan
from tests.scripts import put

ORDER = 100


def is_within(low, high, key):
    return (low is None or key >= low) and (high is None or key < high)


def parts(record):
    """Return (level, low, high, keys, values or pages); the level of a free mark is -1."""
    if record[0] == "free":
        return (-1, None, None, (), ())
    if record[0] == "leaf":
        return (0,) + record[1:]
    return record[1:]


def faults_below(records, page, bounds, level, reached):
    """Return all that is wrong at a page and below it; `reached` is filled."""
    if page in reached:
        return ["page %d twice" % page]
    reached.append(page)
    own, low, high, keys, rest = parts(records[page])
    wrong = []
    if own < 0:
        return ["page %d is free" % page]
    if (low, high) != bounds:
        wrong.append("page %d has the bounds %r" % (page, (low, high)))
    if level is not None and own != level:
        wrong.append("page %d has the level %d" % (page, own))
    if list(keys) != sorted(set(keys)) or not all(is_within(low, high, key) for key in keys):
        wrong.append("page %d has the keys %r" % (page, keys))
    least, most = (2, 4) if own == 0 else (2, 5)
    if not (0 if page == 0 and own == 0 else least) <= len(rest) <= most:
        wrong.append("page %d has the size %d" % (page, len(rest)))
    if own == 0:
        return wrong + (["page %d has lost values" % page] if len(keys) != len(rest) else [])
    if len(rest) != len(keys) + 1:
        return wrong + ["page %d has not one page more" % page]
    borders = [low] + list(keys) + [high]
    for at, child in enumerate(rest):
        wrong.extend(faults_below(
            records, child, (borders[at], borders[at + 1]), own - 1, reached))
    return wrong


def tree_faults(records):
    """Return all that is wrong with the records of all pages, a dict by page."""
    reached = []
    wrong = faults_below(records, 0, (None, None), None, reached)
    for page in records:
        if page not in reached and records[page][0] != "free":
            wrong.append("page %d is lost" % page)
    return wrong


def content(records, page=0):
    """Return the dict of all keys and values of an exact tree."""
    level, _, _, keys, rest = parts(records[page])
    if level == 0:
        return dict(zip(keys, rest))
    found = {}
    for child in rest:
        found.update(content(records, child))
    return found


def leaf_with(low, high, *keys):
    """A leaf whose values are ten times its keys."""
    return ("leaf", low, high, keys, tuple(10 * key for key in keys))


def child_for(record, key):
    """Return the page of an inner node that has the key."""
    _, low, high, keys, pages = parts(record)
    borders = [low] + list(keys) + [high]
    found = [page for at, page in enumerate(pages)
             if is_within(borders[at], borders[at + 1], key)]
    return found[0]


class Shelf:
    """A tree outside of any memory: a dict from pages to (address, record)."""

    def __init__(self, records=None):
        records = records or {0: ("leaf", None, None, (), ())}
        self.rows = {page: (ORDER + page, records[page]) for page in records}
        self.count = 0
        self.asked = []

    def records(self):
        return {page: record for page, (_, record) in self.rows.items()}

    def step(self, page):
        self.count += 1
        return (page,) + self.rows[page] + (self.count,)

    def path(self, key):
        path = [self.step(0)]
        while path[-1][2][0] == "inner":
            path.append(self.step(child_for(path[-1][2], key)))
        return path

    def plan(self, call):
        """Return the plan of a call with all siblings that it asks for."""
        path = self.path(call[1])
        siblings = {}
        self.asked = []
        found = plan(call, path, siblings)
        while found[0] == "read":
            self.asked.append(found[1])
            siblings[found[1]] = self.step(found[1])
            found = plan(call, path, siblings)
        return found

    def fits(self, entries):
        """Tell whether all pages of the entries still have their addresses."""
        return all(self.rows[page][0] == address for page, address, _ in entries if page >= 0)

    def carry_out(self, entries):
        """Do what a deed of these entries does."""
        assert self.fits(entries)
        made = [entry for entry in entries if entry[0] < 0]
        free = sorted(page for page, (_, record) in self.rows.items() if record[0] == "free")
        free.extend(range(max(self.rows) + 1, max(self.rows) + 1 + len(made)))
        self.count += 1
        for page, _, record in placed(entries, free[:len(made)]):
            # No address is used twice.
            self.rows[page] = (ORDER * self.count + page, record)

    def do(self, call):
        """Plan a call and carry it out; return its answer."""
        found = self.plan(call)
        if found[0] == "answer":
            return found[1]
        self.carry_out(found[2])
        return found[1]


def plant(memory, records):
    """Put the records of pages into a memory, each at its page's first address."""
    for page, record in records.items():
        put(memory, memory.layout.record(page), record)


def shown_tree(memory):
    """Return the dict of the shown records, straight from the words of point [11]."""
    found = {}
    for page in range(memory.layout.pages):
        address = memory.peek(memory.layout.word(page))
        if isinstance(address, tuple):
            outcome = memory.peek(address[1])
            is_done = isinstance(outcome, tuple) and outcome[0] == "done"
            address = address[3] if is_done else address[2]
        found[page] = memory.peek(address)
    return found


ONE_LEVEL = {0: leaf_with(None, None, 10, 20, 30)}
TWO_LEVELS = {
    0: ("inner", 1, None, None, (10, 20), (1, 2, 3)),
    1: leaf_with(None, 10, 1, 5),
    2: leaf_with(10, 20, 10, 12, 19),
    3: leaf_with(20, None, 25, 30, 35, 40),
}
THREE_LEVELS = {
    0: ("inner", 2, None, None, (40,), (1, 2)),
    1: ("inner", 1, None, 40, (20,), (3, 4)),
    2: ("inner", 1, 40, None, (60, 80), (5, 6, 7)),
    3: leaf_with(None, 20, 5, 10),
    4: leaf_with(20, 40, 20, 30),
    5: leaf_with(40, 60, 40, 50),
    6: leaf_with(60, 80, 60, 70, 75),
    7: leaf_with(80, None, 80, 85, 90, 95),
}
