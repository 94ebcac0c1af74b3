"""Points [3], [4] and [6]: accesses, their results and their numbers."""

import unittest

from espalier.errors import NotValid
from espalier.memory import Layout, Memory, is_mark
from tests.scripts import Script, all_cells, state_of

VALUES = (0, 7, -3, 10 ** 30, None, "", "text", (), (1, None, "a"),
          ("done", 3), ("leaf", None, 4, (1, 2), (10, 20)), ((1, (2,)), 3))


def memory_with(value, cell=20):
    memory = Memory(Layout(2, 4, 40))
    memory.access(0, ("write", cell, value))
    return memory


class ResultsTest(unittest.TestCase):
    def test_the_example(self):
        memory = Memory(Layout(2, 4, 40))
        self.assertEqual(memory.access(0, ("swap", 5, 9, 13)), (True, 1))
        self.assertEqual(memory.access(1, ("swap", 5, 9, 14)), (False, 2))
        self.assertEqual(memory.peek(5), 13)

    def test_read_returns_the_value_and_changes_nothing(self):
        for value in VALUES:
            memory = memory_with(value)
            before = all_cells(memory)
            self.assertEqual(memory.access(1, ("read", 20)), (value, 2))
            self.assertEqual(memory.access(1, ("read", 20)), (value, 3))
            self.assertEqual(all_cells(memory), before)

    def test_write_gives_the_value_and_returns_none(self):
        memory = Memory(Layout(2, 4, 40))
        for value in VALUES:
            before = all_cells(memory)
            result = memory.access(0, ("write", 20, value))
            self.assertEqual(result, (None, memory.count))
            before[20] = value
            self.assertEqual(all_cells(memory), before)

    def test_swap_with_an_old_value_that_fits(self):
        for old in VALUES:
            for new in VALUES:
                memory = memory_with(old)
                before = all_cells(memory)
                result, number = memory.access(1, ("swap", 20, old, new))
                self.assertIs(result, True)
                self.assertEqual(number, 2)
                before[20] = new
                self.assertEqual(all_cells(memory), before)

    def test_swap_with_an_old_value_that_does_not_fit(self):
        for held in VALUES:
            for old in VALUES:
                if old == held:
                    continue
                memory = memory_with(held)
                before = all_cells(memory)
                result, number = memory.access(1, ("swap", 20, old, 99))
                self.assertIs(result, False)
                self.assertEqual(number, 2)
                self.assertEqual(all_cells(memory), before)

    def test_swap_compares_values_not_objects(self):
        memory = memory_with(tuple([60, 61, "".join(["te", "xt"])]))
        old = tuple([60, 61, "text"])
        self.assertEqual(memory.access(0, ("swap", 20, old, 62)), (True, 2))

    def test_decide_a_cell_that_holds_0(self):
        for word in ("done", "failed"):
            memory = memory_with(0)
            memory.access(0, ("read", 3))
            before = all_cells(memory)
            result, number = memory.access(1, ("decide", 20, word))
            self.assertIs(result, True)
            self.assertEqual(number, 3)
            before[20] = (word, 3)
            self.assertEqual(all_cells(memory), before)

    def test_decide_a_cell_that_does_not_hold_0(self):
        for held in VALUES[1:]:
            memory = memory_with(held)
            before = all_cells(memory)
            result, number = memory.access(1, ("decide", 20, "done"))
            self.assertIs(result, False)
            self.assertEqual(number, 2)
            self.assertEqual(all_cells(memory), before)

    def test_a_decision_stands(self):
        memory = memory_with(0)
        self.assertEqual(memory.access(0, ("decide", 20, "failed")), (True, 2))
        self.assertEqual(memory.access(1, ("decide", 20, "done")), (False, 3))
        self.assertEqual(memory.peek(20), ("failed", 2))

    def test_the_thread_does_not_matter_for_the_result(self):
        for thread in (0, 1, 2, 3):
            memory = Memory(Layout(4, 2, 2))
            self.assertEqual(memory.access(thread, ("swap", 1, None, 5)), (True, 1))
            self.assertEqual(memory.access(thread, ("read", 1)), (5, 2))

    def test_the_first_and_the_last_cell_of_each_kind(self):
        layout = Layout(3, 4, 40)
        for cell in (0, 1, 4, 5, 8, 9, 12, 13, 48):
            memory = Memory(layout)
            expected = all_cells(memory)
            held = expected[cell]
            self.assertEqual(memory.access(0, ("read", cell)), (held, 1))
            self.assertEqual(memory.access(0, ("write", cell, "x")), (None, 2))
            self.assertEqual(memory.access(0, ("swap", cell, "x", 0)), (True, 3))
            self.assertEqual(memory.access(0, ("decide", cell, "done")), (True, 4))
            expected[cell] = ("done", 4)
            self.assertEqual(all_cells(memory), expected)


class NumbersTest(unittest.TestCase):
    def setUp(self):
        self.memory = Memory(Layout(2, 4, 40))

    def test_numbers_follow_each_other_from_1(self):
        requests = (("read", 0), ("write", 20, 1), ("swap", 20, 1, 2),
                    ("swap", 20, 1, 3), ("decide", 20, "done"),
                    ("write", 20, 0), ("decide", 20, "done"), ("read", 20))
        results = [self.memory.access(0, request) for request in requests]
        self.assertEqual(results, [
            (0, 1), (None, 2), (True, 3), (False, 4), (False, 5),
            (None, 6), (True, 7), (("done", 7), 8)])

    def test_count_is_the_number_of_accesses(self):
        for number in range(1, 30):
            self.memory.access(number & 1, ("swap", 5, 0, 1))
            self.assertEqual(self.memory.count, number)

    def test_log_names_each_access(self):
        self.memory.access(0, ("read", 0))
        self.memory.access(1, ("write", 20, 0))
        self.memory.access(0, ("decide", 20, "done"))
        self.memory.access(0, ("decide", 20, "done"))
        self.memory.access(1, ("swap", 48, 3, 4))
        self.assertEqual(self.memory.log(), [
            (1, 0, "read", 0), (2, 1, "write", 20), (3, 0, "decide", 20),
            (4, 0, "decide", 20), (5, 1, "swap", 48)])

    def test_a_returned_log_is_not_changed_later(self):
        self.memory.access(0, ("read", 0))
        first = self.memory.log()
        self.memory.access(1, ("read", 1))
        self.assertEqual(first, [(1, 0, "read", 0)])

    def test_each_log_is_a_list_of_its_own(self):
        self.memory.access(0, ("read", 0))
        self.memory.log().clear()
        self.assertEqual(self.memory.log(), [(1, 0, "read", 0)])
        self.assertIsNot(self.memory.log(), self.memory.log())

    def test_peek_and_log_make_no_access(self):
        self.memory.access(0, ("write", 20, (1, 2)))
        before = state_of(self.memory)
        self.assertEqual(self.memory.peek(20), (1, 2))
        self.assertEqual(state_of(self.memory), before)
        self.assertEqual(self.memory.access(0, ("read", 20)), ((1, 2), 2))

    def test_refused_requests_are_not_counted(self):
        self.memory.access(0, ("read", 0))
        for request in (("call", 0), ("read", -1), ("write", 49, 1)):
            with self.assertRaises(NotValid):
                self.memory.access(0, request)
        self.assertEqual(self.memory.access(1, ("write", 20, 0)), (None, 2))
        with self.assertRaises(NotValid):
            self.memory.peek(49)
        self.assertEqual(self.memory.access(1, ("decide", 20, "done")), (True, 3))
        self.assertEqual(self.memory.peek(20), ("done", 3))
        self.assertEqual([row[0] for row in self.memory.log()], [1, 2, 3])


class RefusalsTest(unittest.TestCase):
    def setUp(self):
        self.memory = Memory(Layout(2, 4, 40))
        self.memory.access(1, ("write", 20, 0))

    def refused(self, request):
        before = state_of(self.memory)
        with self.assertRaises(NotValid):
            self.memory.access(0, request)
        self.assertEqual(state_of(self.memory), before)

    def test_requests_of_other_kinds(self):
        for request in (("call", Script(("end", 1))), ("end", 0), ("end", None),
                        ("peek", 20), ("READ", 20), ("", 20), (None, 20),
                        (0, 20), (20, "read"), (["read"], 20)):
            self.refused(request)

    def test_requests_with_too_few_or_too_many_parts(self):
        for request in (("read",), ("read", 20, 0), ("write", 20),
                        ("write", 20, 0, 1), ("swap", 20, 0),
                        ("swap", 20, 0, 1, 2), ("decide", 20),
                        ("decide", 20, "done", 1), ()):
            self.refused(request)

    def test_requests_that_are_no_tuples(self):
        for request in (None, 20, "read", ["read", 20], ["write", 20, 1]):
            self.refused(request)

    def test_cells_that_do_not_exist(self):
        for cell in (-1, -49, 49, 50, 10 ** 20, None, "20", True, False, (20,)):
            self.refused(("read", cell))
            self.refused(("write", cell, 1))
            self.refused(("swap", cell, None, 1))
            self.refused(("decide", cell, "done"))

    def test_the_last_cell_depends_on_the_layout(self):
        for pages, records in ((2, 2), (2, 3), (48, 48), (48, 400)):
            memory = Memory(Layout(1, pages, records))
            last = 4 + pages + records
            memory.access(0, ("write", last, 5))
            self.assertEqual(memory.peek(last), 5)
            for cell in (-1, last + 1):
                with self.assertRaises(NotValid):
                    memory.access(0, ("write", cell, 5))
                with self.assertRaises(NotValid):
                    memory.peek(cell)

    def test_peek_of_a_cell_that_does_not_exist(self):
        before = state_of(self.memory)
        for cell in (-1, -49, 49, 50, 10 ** 20, None, "20", True, False):
            with self.assertRaises(NotValid):
                self.memory.peek(cell)
        self.assertEqual(state_of(self.memory), before)


class MarksTest(unittest.TestCase):
    def test_tuples_are_marks(self):
        for value in ((60, 61, 55, 62), (0, 0, 0, 0), ()):
            self.assertIs(is_mark(value), True)

    def test_addresses_and_other_values_are_no_marks(self):
        for value in (0, 9, 55, None, "60"):
            self.assertIs(is_mark(value), False)

    def test_the_words_of_a_new_memory_are_no_marks(self):
        memory = Memory(Layout(2, 4, 40))
        for page in range(4):
            self.assertIs(is_mark(memory.peek(memory.layout.word(page))), False)


if __name__ == "__main__":
    unittest.main()
