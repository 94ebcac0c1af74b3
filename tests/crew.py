"""Threads that make calls in one memory, looked at behind each access.

It is no part of the program: it plays the machines of `espalier.calls` by
itself and tells what is right by the words of the document alone.
"""

from espalier.calls import machine_of
from espalier.epochs import Store
from espalier.machines import Stack
from espalier.memory import Layout, Memory
from tests.plain import answer_and_map
from tests.trees import content, plant, shown_tree, tree_faults

ENOUGH = 2000


class Crew:
    """Threads with lists of calls.

    `rows` are lists [thread, call, answer, witness, first, last] of the calls
    that were begun, in the order in which they were begun. `maps` is the list
    of what the tree held behind each access, the first one before them all.
    """

    def __init__(self, case, calls, pages=48, records=400, tree=None):
        self.case = case
        self.calls = [list(row) for row in calls]
        self.memory = Memory(Layout(len(calls), pages, records))
        self.stores = [Store(self.memory.layout, thread) for thread in range(len(calls))]
        if tree is not None:
            self.plant(tree)
        self.begun = [0] * len(calls)
        self.stacks = [None] * len(calls)
        self.machines = [None] * len(calls)
        self.present = [None] * len(calls)
        self.rows = []
        self.base = self.memory.count
        self.maps = [content(self.look())]

    def plant(self, tree):
        """Begin with this tree; its pages are in no store."""
        plant(self.memory, tree)
        for store in self.stores:
            cells, pages = store.take(0, len(store.free_pages()))
            store.give_back(cells, [row for row in pages if row[0] not in tree])

    def look(self):
        tree = shown_tree(self.memory)
        self.case.assertEqual(tree_faults(tree), [])
        return tree

    def is_idle(self, thread):
        return self.stacks[thread] is None and self.begun[thread] == len(self.calls[thread])

    def begin_call(self, thread):
        call = self.calls[thread][self.begun[thread]]
        self.begun[thread] += 1
        self.machines[thread] = machine_of(self.stores[thread], call)
        self.stacks[thread] = Stack(self.machines[thread])
        self.present[thread] = [thread, call, None, None, self.memory.count + 1, None]
        self.rows.append(self.present[thread])

    def step(self, thread):
        """Make the next access of a thread; tell whether it made one."""
        if self.is_idle(thread):
            return False
        if self.stacks[thread] is None:
            self.begin_call(thread)
        stack = self.stacks[thread]
        self.case.assertTrue(stack.step(self.memory, thread))
        self.maps.append(content(self.look()))
        if stack.ended():
            row = self.present[thread]
            row[2], row[3] = stack.value()
            row[5] = self.memory.count
            self.stacks[thread] = None
            self.check_row(row)
        return True

    def steps(self, thread, many):
        for _ in range(many):
            self.step(thread)

    def end_call(self, thread):
        """Go on with one thread until its present or next call has ended."""
        made = 0
        while self.step(thread) and self.stacks[thread] is not None:
            made += 1
            self.case.assertLess(made, ENOUGH)

    def finish(self, threads):
        for thread in threads:
            while not self.is_idle(thread):
                self.end_call(thread)

    def finish_all(self):
        self.finish(range(len(self.calls)))

    def map_behind(self, number):
        return self.maps[number - self.base]

    def check_row(self, row):
        """The answer of a call is that of the map at its witness."""
        _, call, answer, witness, first, last = row
        if answer in ("full", "busy"):
            self.case.assertIsNone(witness)
            self.case.assertEqual(answer == "busy", call[0] == "scan")
            self.case.assertNotEqual(call[0], "look")
            return
        self.case.assertLessEqual(first, witness)
        self.case.assertLessEqual(witness, last)
        if not self.changed(row):
            # Its answer is that of the map directly behind the witness.
            plain = self.map_behind(witness)
            self.case.assertEqual((answer, plain), answer_and_map(plain, call), row)

    def changed(self, row):
        """Tell whether a call that took place changed the tree at its witness."""
        before, behind = self.map_behind(row[3] - 1), self.map_behind(row[3])
        return before != behind and answer_and_map(before, row[1]) == (row[2], behind)

    def unfinished(self):
        """The rows of calls that have not ended, with their witnesses (point [44])."""
        found = []
        for thread, stack in enumerate(self.stacks):
            machine = self.machines[thread]
            if stack is not None and self.present[thread][1][0] != "scan":
                witness = machine.done
                if machine.status is not None:
                    outcome = self.memory.peek(machine.status)
                    witness = outcome[1] if outcome != 0 and outcome[0] == "done" else None
                if witness is not None:
                    found.append((witness, 0, self.present[thread]))
        return found

    def check_order_so_far(self):
        """All answers are those of a plain map in the order of the witnesses."""
        places = self.unfinished()
        for row in self.rows:
            if row[3] is not None:
                places.append((row[3], 0 if self.changed(row) else 1, row))
        plain = self.maps[0]
        for _, _, row in sorted(places, key=lambda place: place[:2]):
            answer, plain = answer_and_map(plain, row[1])
            if row[5] is not None:
                self.case.assertEqual(row[2], answer, row)
        self.case.assertEqual(plain, self.maps[-1])

    def check_places(self):
        """Where every cell and page is when all calls have ended."""
        layout = self.memory.layout
        cells = [self.memory.peek(layout.word(page)) for page in range(layout.pages)]
        self.case.assertTrue(all(isinstance(cell, int) for cell in cells), "a mark is left")
        self.case.assertEqual([self.memory.peek(cell) for cell in range(1, 5)], [None] * 4)
        tree = shown_tree(self.memory)
        pages = [page for page in tree if tree[page][0] != "free"]
        for store in self.stores:
            cells.extend(store.free_cells())
            cells.extend(cell for _, row in store.waiting() for cell in row)
            pages.extend(page for page, _ in store.free_pages())
            for page, mark in store.free_pages():
                self.case.assertEqual(self.memory.peek(layout.word(page)), mark)
                self.case.assertEqual(self.memory.peek(mark), ("free", page))
            self.case.assertNotIn(None, [stamp for stamp, _ in store.waiting()])
        self.case.assertEqual(
            sorted(cells), [layout.record(index) for index in range(layout.records)])
        self.case.assertEqual(sorted(pages), list(range(layout.pages)))

    def check_end(self):
        self.check_order_so_far()
        self.check_places()
