"""Points [42] to [45]: what is a call, and calls that nothing disturbs."""

import unittest

from espalier.calls import KeyCall, is_call, machine_of
from espalier.epochs import Store
from espalier.machines import Stack
from espalier.memory import Layout, Memory
from espalier.scans import Scan
from tests.scripts import all_cells, is_steady, play_alone, put
from tests.trees import (
    THREE_LEVELS, TWO_LEVELS, content, leaf_with, plant, shown_tree, tree_faults)

HUGE = 10 ** 20

CALLS = (
    ("look", 5), ("put", 5, 7), ("add", 5, 7), ("change", 5, 7, 8), ("take", 5),
    ("scan", 5, 7), ("look", 0), ("look", -1), ("put", -HUGE, HUGE), ("scan", 7, 5),
    ("scan", 5, 5), ("scan", -HUGE, HUGE), ("change", 5, 7, 7), ("add", 0, 0))


class Other:
    """A value of no kind that the document knows."""


class Equal:
    """A value that says of itself that it is equal to everything."""

    def __eq__(self, other):
        return True

    def __hash__(self):
        return 0


class IsCallTest(unittest.TestCase):
    def test_calls(self):
        for call in CALLS:
            self.assertIs(is_call(call), True, call)

    def test_other_words(self):
        for call in CALLS:
            for word in ("", "Look", "look ", "read", "calls", "scans", "get", None, 0, 1, True,
                         b"look", ("look",), ["look"], {}, Other(), Equal()):
                self.assertIs(is_call((word,) + call[1:]), False, word)
        for call, other in ((("look", 5), "put"), (("put", 5, 7), "take"),
                            (("scan", 5, 7), "change"), (("take", 5), "scan")):
            self.assertFalse(is_call((other,) + call[1:]))

    def test_parts_too_few_or_too_many(self):
        for call in CALLS:
            self.assertIs(is_call(call[:1]), False)
            self.assertIs(is_call(call[:-1]), False)
            self.assertIs(is_call(call + (1,)), False)
            self.assertIs(is_call(call + (None,)), False)
            self.assertIs(is_call(call + call[1:] + (3,)), False)
        self.assertIs(is_call(()), False)

    def test_other_things_in_the_place_of_an_integer(self):
        for call in CALLS:
            for at in range(1, len(call)):
                for value in (True, False, None, "5", "", 5.0, [5], (5,), {}, b"5", Other(),
                              Equal(), float("nan")):
                    bent = call[:at] + (value,) + call[at + 1:]
                    self.assertIs(is_call(bent), False, bent)

    def test_other_values(self):
        for value in (None, True, 0, 5, "look", "", 2.5, b"look", Other(), Other, [], {}, set(),
                      ["look", 5], {"look": 5}, {0: "look", 1: 5}, iter(("look", 5)), len):
            self.assertIs(is_call(value), False, value)


class CallsCase(unittest.TestCase):
    def begin(self, records=None, pages=4, cells=20, threads=1):
        self.memory = Memory(Layout(threads, pages, cells))
        self.layout = self.memory.layout
        self.store = Store(self.layout, 0)
        if records is not None:
            plant(self.memory, records)
            free = self.store.take(0, len(self.store.free_pages()))[1]
            self.store.give_back([], [row for row in free if row[0] not in records])
        self.base = self.memory.count

    def call(self, call):
        """Make a call alone; return its answer and its witness from the beginning."""
        before = self.memory.count
        value, self.made = play_alone(self.memory, machine_of(self.store, call))
        self.assertEqual(self.memory.peek(1), None)
        self.assertEqual(tree_faults(shown_tree(self.memory)), [])
        if value[1] is None:
            return value
        return value[0], value[1] - before

    def map(self):
        return content(shown_tree(self.memory))

    def places(self):
        return self.store.free_cells(), self.store.free_pages(), self.store.waiting()


class ReadingCallsTest(CallsCase):
    """Calls that change nothing: steps 1 to 4 and 8 of point [43]."""

    ENTER = [("read", 0), ("write", 1), ("read", 0)]
    LEAVE = [("write", 1)]

    def test_a_look_in_an_empty_tree(self):
        self.begin()
        before = all_cells(self.memory), self.places()
        self.assertEqual(self.call(("look", 5)), (None, 4))
        self.assertEqual(self.made, self.ENTER + [("read", 5), ("read", 9)] + self.LEAVE)
        self.assertEqual((all_cells(self.memory), self.places()), before)

    def test_each_kind_of_answer(self):
        for call, answer in (
                (("look", 12), 120), (("look", 13), None), (("put", 12, 120), 120),
                (("add", 12, 3), False), (("change", 12, 3, 4), False),
                (("change", 12, 120, 120), True), (("change", 13, 3, 4), False),
                (("take", 13), None)):
            self.begin(TWO_LEVELS)
            before = all_cells(self.memory), self.places()
            self.assertEqual(self.call(call), (answer, 6))
            self.assertEqual(isinstance(self.call(call)[0], bool), isinstance(answer, bool))
            self.assertEqual(self.made, self.ENTER + [
                ("read", 5), ("read", 9), ("read", 7), ("read", 11)] + self.LEAVE)
            self.assertEqual((all_cells(self.memory), self.places()), before)

    def test_three_levels(self):
        self.begin(THREE_LEVELS, 8, 30)
        self.assertEqual(self.call(("look", 75)), (750, 8))
        self.assertEqual(len(self.made), 10)

    def test_something_waits(self):
        # At most 9 accesses more than 2 for each level.
        for threads in range(1, 5):
            self.begin(threads=threads)
            self.call(("put", 5, 50))
            self.assertEqual(self.call(("look", 5)), (50, 4))
            self.assertEqual(len(self.made), 2 + 3 + 1 + 1 + threads)

    def test_fields_of_a_call_that_changes_nothing(self):
        self.begin()
        machine = KeyCall(self.store, ("look", 5))
        self.assertEqual((machine.done, machine.status), (None, None))
        play_alone(self.memory, machine)
        self.assertEqual((machine.done, machine.status), (None, None))


class ChangingCallsTest(CallsCase):
    """Steps 5 to 7 of point [43], step by step."""

    def test_the_first_put(self):
        self.begin()
        self.assertEqual(self.call(("put", 5, 50)), (None, 13))
        self.assertEqual(self.made, [
            ("read", 0), ("write", 1), ("read", 0), ("read", 5), ("read", 9),
            ("write", 13), ("write", 14), ("write", 15),
            ("read", 15), ("read", 14), ("read", 5), ("swap", 5), ("decide", 14), ("read", 14),
            ("swap", 5), ("read", 0), ("write", 1), ("read", 0), ("swap", 0)])
        self.assertEqual(self.memory.peek(5), 13)
        self.assertEqual(self.memory.peek(13), leaf_with(None, None, 5))
        self.assertEqual(self.memory.peek(14), ("done", 13))
        self.assertEqual(self.memory.peek(15), ("deed", 14, ((5, 9, 13),)))
        self.assertEqual(self.places(), (
            list(range(16, 29)), [(1, 10), (2, 11), (3, 12)], [(0, [9, 14, 15])]))

    def test_each_kind_of_change(self):
        for call, answer, leaf in (
                (("put", 12, 7), 120, ("leaf", 10, 20, (10, 12, 19), (100, 7, 190))),
                (("put", 11, 110), None, leaf_with(10, 20, 10, 11, 12, 19)),
                (("add", 11, 110), True, leaf_with(10, 20, 10, 11, 12, 19)),
                (("change", 12, 120, 7), True, ("leaf", 10, 20, (10, 12, 19), (100, 7, 190))),
                (("take", 12), 120, leaf_with(10, 20, 10, 19))):
            self.begin(TWO_LEVELS)
            self.assertEqual(self.call(call), (answer, 15))
            self.assertEqual(shown_tree(self.memory)[2], leaf)
            self.assertEqual(self.places()[1:], ([], [(0, [11, 14, 15])]))

    def test_page_0_is_cut(self):
        self.begin({0: leaf_with(None, None, 1, 2, 3, 4)})
        self.assertEqual(self.call(("put", 5, 50)), (None, 19))
        self.assertEqual(self.made[5:10], [("write", cell) for cell in range(13, 18)])
        self.assertEqual(self.memory.peek(17), (
            "deed", 16, ((5, 9, 13), (6, 10, 14), (7, 11, 15))))
        self.assertEqual([self.memory.peek(cell) for cell in range(13, 16)], [
            ("inner", 1, None, None, (4,), (1, 2)),
            leaf_with(None, 4, 1, 2, 3), leaf_with(4, None, 4, 5)])
        self.assertEqual(self.places(), (
            list(range(18, 29)), [(3, 12)], [(0, [9, 10, 11, 16, 17])]))

    def test_the_new_page_comes_before_its_neighbour(self):
        # The entries are sorted by page: 0, then the new page 1, then 3.
        records = {0: ("inner", 1, None, None, (10,), (3, 2)),
                   3: leaf_with(None, 10, 1, 2, 3, 4), 2: leaf_with(10, None, 10, 11)}
        self.begin(records, 5, 30)
        cells = self.store.free_cells()
        self.assertEqual(self.call(("put", 5, 50))[0], None)
        self.assertEqual([self.memory.peek(cell) for cell in cells[:5]], [
            ("inner", 1, None, None, (4, 10), (3, 1, 2)), leaf_with(4, 10, 4, 5),
            leaf_with(None, 4, 1, 2, 3), ("done", self.base + 21),
            ("deed", cells[3], ((5, 10, cells[0]), (6, 11, cells[1]), (8, 13, cells[2])))])
        self.assertEqual(self.store.free_pages(), [(4, 14)])
        self.assertEqual(self.store.waiting(), [(0, [10, 11, 13, cells[3], cells[4]])])

    def test_old_addresses_are_taken_out_in_ascending_order(self):
        # Page 1 has a greater address than page 2 when both are changed.
        records = {0: ("inner", 1, None, None, (10, 20), (1, 2, 3)),
                   1: leaf_with(None, 10, 1, 2), 2: leaf_with(10, 20, 10, 11),
                   3: leaf_with(20, None, 20, 21)}
        self.begin(records)
        put(self.memory, 28, records[1])
        put(self.memory, self.layout.word(1), 28)
        self.store.take(len(self.store.free_cells()), 0)
        self.store.give_back(list(range(13, 20)), [])
        self.call(("take", 10))
        self.assertEqual(self.store.waiting(), [(0, [9, 11, 28, 16, 17])])

    def test_a_sibling_is_read(self):
        records = {0: ("inner", 1, None, None, (10, 20), (1, 2, 3)),
                   1: leaf_with(None, 10, 1, 2), 2: leaf_with(10, 20, 10, 11),
                   3: leaf_with(20, None, 20, 21)}
        self.begin(records)
        self.assertEqual(self.call(("take", 10))[0], 100)
        self.assertEqual(self.made[:9], [
            ("read", 0), ("write", 1), ("read", 0), ("read", 5), ("read", 9), ("read", 7),
            ("read", 11), ("read", 6), ("read", 10)])
        # Page 2 became free; it can be taken at once, with its new address.
        self.assertEqual(self.store.free_pages(), [(2, 15)])
        self.assertEqual(self.memory.peek(self.layout.word(2)), 15)
        self.assertEqual(self.memory.peek(15), ("free", 2))
        self.assertEqual(self.store.waiting(), [(0, [9, 10, 11, 16, 17])])

    def test_page_0_gets_lower_and_both_pages_are_free(self):
        records = {0: ("inner", 1, None, None, (4,), (1, 2)),
                   1: leaf_with(None, 4, 1, 2, 3), 2: leaf_with(4, None, 4, 5)}
        self.begin(records)
        self.assertEqual(self.call(("take", 5))[0], 50)
        self.assertEqual(self.store.free_pages(), [(1, 14), (2, 15), (3, 12)])
        self.assertEqual(shown_tree(self.memory), {
            0: leaf_with(None, None, 1, 2, 3, 4), 1: ("free", 1), 2: ("free", 2),
            3: ("free", 3)})

    def test_siblings_on_two_levels(self):
        self.begin(THREE_LEVELS, 8, 40)
        self.assertEqual(self.call(("take", 5))[0], 50)
        reads = [cell for kind, cell in self.made[3:13]]
        self.assertEqual(reads, [5, 13, 6, 14, 8, 16, 9, 17, 7, 15])
        self.assertEqual(shown_tree(self.memory)[0], (
            "inner", 1, None, None, (40, 60, 80), (3, 5, 6, 7)))
        self.assertEqual([page for page, _ in self.store.free_pages()], [1, 2, 4])

    def test_fields_of_a_call_that_changes_something(self):
        self.begin()
        machine = KeyCall(self.store, ("put", 5, 50))
        stack = Stack(machine)
        seen = []
        while not stack.ended():
            stack.step(self.memory, 0)
            seen.append((machine.done, machine.status))
        self.assertEqual(seen[:7], [(None, None)] * 7)
        self.assertEqual(seen[7:14], [(None, 14)] * 7)
        self.assertEqual(seen[14:], [(13, None)] * 5)

    def test_the_status_of_a_deed_is_never_that_of_an_earlier_one(self):
        # The status cell of a call may hold what another call left there.
        self.begin(cells=13)
        for key in range(30):
            machine = KeyCall(self.store, ("put", 5, key))
            stack = Stack(machine)
            before = self.memory.count
            while not stack.ended():
                stack.step(self.memory, 0)
                if machine.status is not None:
                    outcome = self.memory.peek(machine.status)
                    self.assertTrue(outcome == 0 or outcome[1] > before)
            self.assertEqual(stack.value()[0], key - 1 if key else None)

    def test_many_calls_alone_use_the_cells_anew(self):
        self.begin(None, 12, 40)
        plain = {}
        for turn in range(6):
            for key in range(14):
                self.assertEqual(self.call(("put", key, turn))[0], plain.get(key))
                plain[key] = turn
                self.assertEqual(self.map(), plain)
            for key in range(0, 14, 2):
                self.assertEqual(self.call(("take", key))[0], plain.pop(key))
                self.assertEqual(self.map(), plain)

    def test_asking_twice(self):
        self.begin({0: leaf_with(None, None, 1, 2, 3, 4)})
        machine = KeyCall(self.store, ("put", 5, 50))
        before = self.places()
        while machine.request()[0] != "end":
            self.assertTrue(is_steady(machine))
            request = machine.request()
            if request[0] == "call":
                machine.accept(play_alone(self.memory, request[1])[0])
            else:
                self.assertNotEqual(self.places(), before)
                machine.accept(self.memory.access(0, request))
        self.assertTrue(is_steady(machine))

    def test_machine_of(self):
        self.begin()
        for call in CALLS:
            machine = machine_of(self.store, call)
            self.assertIs(type(machine), Scan if call[0] == "scan" else KeyCall)


class FullTest(CallsCase):
    """The store has too little: the answer is "full" and nothing changes."""

    def check_full(self, call, reads):
        before = all_cells(self.memory), self.places(), self.map()
        self.assertEqual(self.call(call), ("full", None))
        self.assertEqual((all_cells(self.memory), self.places(), self.map()), before)
        self.assertEqual(len(self.made), reads + 4)
        self.assertNotIn("decide", [kind for kind, _ in self.made])

    def test_too_few_cells(self):
        for cells in (4, 5, 6):
            for call in (("put", 5, 50), ("add", 5, 50)):
                self.begin(cells=cells)
                self.check_full(call, 2)
        for call in (("put", 12, 7), ("take", 12), ("change", 12, 120, 7)):
            self.begin(TWO_LEVELS, cells=6)
            self.check_full(call, 4)
        self.begin(cells=7)
        self.assertEqual(self.call(("put", 5, 50)), (None, 13))

    def test_too_few_cells_for_a_cut(self):
        records = {0: leaf_with(None, None, 1, 2, 3, 4)}
        self.begin(records, cells=8)
        self.check_full(("put", 5, 50), 2)
        self.begin(records, cells=9)
        self.assertEqual(self.call(("put", 5, 50))[0], None)

    def test_too_few_pages(self):
        records = {0: leaf_with(None, None, 1, 2, 3, 4)}
        self.begin(records, 2, 40)
        self.check_full(("put", 5, 50), 2)
        self.check_full(("add", 0, 0), 2)
        self.begin(records, 3, 40)
        self.assertEqual(self.call(("put", 5, 50))[0], None)
        self.assertEqual(self.store.free_pages(), [])

    def test_calls_that_change_nothing_are_not_full(self):
        for call, answer in ((("look", 12), 120), (("put", 12, 120), 120),
                             (("add", 12, 5), False), (("take", 13), None),
                             (("change", 12, 5, 6), False), (("scan", 12, 13), [(12, 120)])):
            self.begin(TWO_LEVELS, cells=4)
            self.assertEqual(self.call(call)[0], answer)

    def test_full_behind_a_sibling(self):
        records = {0: ("inner", 1, None, None, (4,), (1, 2)),
                   1: leaf_with(None, 4, 1, 2, 3), 2: leaf_with(4, None, 4, 5)}
        self.begin(records, cells=8)
        self.check_full(("take", 5), 6)

    def test_cells_that_wait_are_not_free(self):
        self.begin(cells=10)
        answers = [self.call(("put", 5, key))[0] for key in range(6)]
        # 6 cells, 3 for each call: those of the first one can be taken at the fourth.
        self.assertEqual(answers, [None, 0, "full", 1, 3, "full"])


if __name__ == "__main__":
    unittest.main()
