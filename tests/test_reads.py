"""Points [11], [12] and [13]: reading words."""

import unittest

from espalier.machines import Stack
from espalier.memory import Layout, Memory
from espalier.reads import Shown, shown_now
from tests.scripts import all_cells, is_steady, pass_time, play_alone, put, state_of

WORD = 8
STATUS = 61
MARK = (60, STATUS, 55, 62)


class ReadsCase(unittest.TestCase):
    def setUp(self):
        self.memory = Memory(Layout(2, 4, 60))

    def mark(self, status, mark=MARK):
        put(self.memory, WORD, mark)
        put(self.memory, mark[1], status)

    def first_step(self, page=3):
        stack = Stack(Shown(self.memory.layout, page))
        stack.step(self.memory, 0)
        return stack


class AloneTest(ReadsCase):
    def test_plain_words(self):
        for page in range(4):
            value, made = play_alone(self.memory, Shown(self.memory.layout, page))
            self.assertEqual(value, (9 + page, page + 1))
            self.assertEqual(made, [("read", 5 + page)])

    def test_a_plain_word_that_was_changed(self):
        put(self.memory, WORD, 40)
        self.assertEqual(play_alone(self.memory, Shown(self.memory.layout, 3))[0], (40, 2))

    def test_the_examples_of_the_document(self):
        for first, answer in ((15, (62, 17)), (20, (62, 20))):
            self.setUp()
            self.mark(("done", 17))
            pass_time(self.memory, first - 1)
            stack = self.first_step()
            pass_time(self.memory, max(first, 17))
            stack.step(self.memory, 0)
            self.assertTrue(stack.ended())
            self.assertEqual(stack.value(), answer)

    def test_marks_with_each_status(self):
        for status, answer in (
                (0, (55, 11)), (("failed", 1), (55, 11)), (("failed", 11), (55, 11)),
                (("failed", 12), (55, 11)), (("failed", 30), (55, 11)),
                (("done", 1), (62, 11)), (("done", 10), (62, 11)), (("done", 11), (62, 11)),
                (("done", 12), (62, 12)), (("done", 30), (62, 30))):
            self.setUp()
            self.mark(status)
            pass_time(self.memory, 10)
            value, made = play_alone(self.memory, Shown(self.memory.layout, 3))
            self.assertEqual(value, answer, status)
            self.assertEqual(made, [("read", WORD), ("read", STATUS)])

    def test_the_first_page_of_a_layout_with_few_pages_and_the_last_of_many(self):
        for pages, page in ((2, 0), (2, 1), (48, 0), (48, 47)):
            memory = Memory(Layout(4, pages, 80))
            address = 5 + pages + page
            self.assertEqual(play_alone(memory, Shown(memory.layout, page))[0], (address, 1))
            self.assertEqual(shown_now(memory, page), address)

    def test_reading_changes_nothing(self):
        for status in (0, ("failed", 1), ("done", 1)):
            self.mark(status)
            cells = all_cells(self.memory)
            play_alone(self.memory, Shown(self.memory.layout, 3))
            self.assertEqual(all_cells(self.memory), cells)

    def test_asking_twice(self):
        self.mark(0)
        machine = Shown(self.memory.layout, 3)
        seen = []
        while machine.request()[0] != "end":
            self.assertTrue(is_steady(machine))
            seen.append(machine.request())
            machine.accept(self.memory.access(0, machine.request()))
        self.assertTrue(is_steady(machine))
        self.assertEqual(seen, [("read", WORD), ("read", STATUS)])

    def test_the_end_is_a_tuple_of_address_and_access(self):
        machine = Shown(self.memory.layout, 3)
        self.assertEqual(machine.request(), ("read", WORD))
        machine.accept((12, 7))
        self.assertEqual(machine.request(), ("end", (12, 7)))

    def test_a_plain_word_ends_the_stack_with_one_step(self):
        stack = self.first_step()
        self.assertTrue(stack.ended())
        self.assertEqual(stack.value(), (12, 1))


class DisturbedTest(ReadsCase):
    """Other accesses between the two accesses of a reading."""

    def read_around(self, *requests):
        """Read the word, make the accesses, and read the status."""
        pass_time(self.memory, 10)
        stack = self.first_step()
        self.assertFalse(stack.ended())
        for request in requests:
            self.memory.access(1, request)
        stack.step(self.memory, 0)
        self.assertTrue(stack.ended())
        return stack.value()

    def test_the_deed_is_done_between(self):
        self.mark(0)
        answer = self.read_around(("read", 0), ("decide", STATUS, "done"), ("read", 0))
        self.assertEqual(answer, (62, 13))

    def test_the_deed_fails_between(self):
        self.mark(0)
        self.assertEqual(self.read_around(("decide", STATUS, "failed")), (55, 11))

    def test_the_deed_is_done_and_the_word_cleaned_between(self):
        self.mark(0)
        answer = self.read_around(
            ("decide", STATUS, "done"), ("swap", WORD, MARK, 62), ("read", 0))
        self.assertEqual(answer, (62, 12))

    def test_the_deed_is_done_and_the_word_is_changed_again_between(self):
        self.mark(0)
        answer = self.read_around(
            ("read", 0), ("decide", STATUS, "done"), ("swap", WORD, MARK, 62),
            ("swap", WORD, 62, 50))
        self.assertEqual(answer, (62, 13))
        self.assertEqual(shown_now(self.memory, 3), 50)

    def test_the_word_is_cleaned_of_a_failed_deed_and_changed_between(self):
        self.mark(0)
        answer = self.read_around(
            ("decide", STATUS, "failed"), ("swap", WORD, MARK, 55), ("swap", WORD, 55, 50))
        self.assertEqual(answer, (55, 11))

    def test_another_mark_comes_between(self):
        self.mark(0)
        put(self.memory, 66, ("done", 3))
        other = (65, 66, 70, 71)
        answer = self.read_around(("write", WORD, other))
        self.assertEqual(answer, (55, 11))
        self.assertEqual(shown_now(self.memory, 3), 71)

    def test_a_mark_comes_behind_the_reading_of_a_plain_word(self):
        machine = Shown(self.memory.layout, 3)
        machine.accept(self.memory.access(0, machine.request()))
        self.mark(("done", 1))
        self.assertEqual(machine.request(), ("end", (12, 1)))

    def test_the_status_was_decided_long_before(self):
        self.mark(("done", 2))
        self.assertEqual(self.read_around(("read", 0), ("read", 0)), (62, 11))


class ShownNowTest(ReadsCase):
    def test_plain_words_and_marks(self):
        self.assertEqual([shown_now(self.memory, page) for page in range(4)], [9, 10, 11, 12])
        for status, address in (
                (0, 55), (("failed", 1), 55), (("failed", 99), 55),
                (("done", 1), 62), (("done", 99), 62)):
            self.mark(status)
            self.assertEqual(shown_now(self.memory, 3), address)
            self.assertEqual([shown_now(self.memory, page) for page in range(3)], [9, 10, 11])

    def test_it_makes_no_access_and_changes_nothing(self):
        for status in (0, ("failed", 1), ("done", 1)):
            self.mark(status)
            before = state_of(self.memory)
            shown_now(self.memory, 3)
            shown_now(self.memory, 0)
            self.assertEqual(state_of(self.memory), before)


if __name__ == "__main__":
    unittest.main()
