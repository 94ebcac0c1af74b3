"""Points [14] and [15]: the record of a deed, and deeds done by one thread."""

import unittest

from espalier.deeds import Doing, deed_record
from espalier.errors import NotValid
from espalier.machines import Stack
from espalier.memory import Layout, Memory
from tests.scripts import all_cells, is_steady, play_alone, put

DEED = 60
STATUS = 61
EXAMPLE = ((5, 53, 62), (7, 55, 63))


class RecordTest(unittest.TestCase):
    def test_lists_and_tuples(self):
        record = ("deed", 61, ((5, 53, 62), (7, 55, 63)))
        for entries in (
                [(5, 53, 62), (7, 55, 63)], ((5, 53, 62), (7, 55, 63)),
                [[5, 53, 62], [7, 55, 63]], ([5, 53, 62], (7, 55, 63)),
                [(5, 53, 62), [7, 55, 63]]):
            self.assertEqual(deed_record(61, entries), record)
        self.assertEqual(deed_record(61, [[5, 53, 62]]), ("deed", 61, ((5, 53, 62),)))

    def test_the_record_has_only_tuples(self):
        kind, status, entries = deed_record(61, [[5, 53, 62], [7, 55, 63]])
        self.assertEqual((kind, status), ("deed", 61))
        for part in (entries, entries[0], entries[1], deed_record(61, [[5, 53, 62]])):
            self.assertIsInstance(part, tuple)

    def test_no_entry(self):
        for entries in ([], ()):
            with self.assertRaises(NotValid):
                deed_record(61, entries)

    def test_cells_that_do_not_ascend_strictly(self):
        for cells in ((5, 5), (7, 5), (5, 6, 6), (5, 7, 6), (6, 5, 7), (5, 6, 7, 5),
                      (5, 6, 7, 8, 9, 10, 11, 11), (0, -1), (10 ** 20, 10 ** 20)):
            for kind in (list, tuple):
                entries = kind(kind((cell, 1, 2)) for cell in cells)
                with self.assertRaises(NotValid):
                    deed_record(61, entries)

    def test_cells_that_cannot_ascend(self):
        for cells in ((5, None), (None, 5), (5, "6"), ("5", 6), (5, (6,)), (0, True)):
            with self.assertRaises(NotValid):
                deed_record(61, [(cell, 1, 2) for cell in cells])

    def test_cells_that_ascend(self):
        for cells in ((0, 1), (5, 6, 7, 8, 9, 10, 11, 12), (-3, 10 ** 20)):
            entries = tuple((cell, 1, 2) for cell in cells)
            self.assertEqual(deed_record(61, entries), ("deed", 61, entries))

    def test_nothing_else_is_looked_at(self):
        for one in (None, "a", True, -1, 10 ** 20, (), (1, (2,))):
            for other in (None, "b", 53):
                entries = ((5, one, other), (7, other, one))
                self.assertEqual(deed_record(one, list(entries)), ("deed", one, entries))

    def test_an_entry_alone_need_not_ascend(self):
        for cell in (None, "5", -1, True):
            self.assertEqual(deed_record(61, [(cell, 1, 2)]), ("deed", 61, ((cell, 1, 2),)))

    def test_what_is_passed_stays(self):
        entries = [[5, 53, 62], [7, 55, 63]]
        record = deed_record(61, entries)
        self.assertEqual(entries, [[5, 53, 62], [7, 55, 63]])
        entries[0][1] = 0
        entries.pop()
        self.assertEqual(record, ("deed", 61, ((5, 53, 62), (7, 55, 63))))

    def test_a_refusal_leaves_what_is_passed(self):
        entries = [[7, 53, 62], [5, 55, 63]]
        with self.assertRaises(NotValid):
            deed_record(61, entries)
        self.assertEqual(entries, [[7, 53, 62], [5, 55, 63]])


class AloneCase(unittest.TestCase):
    def setUp(self):
        self.memory = Memory(Layout(2, 48, 60))

    def begin(self, entries):
        put(self.memory, STATUS, 0)
        put(self.memory, DEED, deed_record(STATUS, entries))

    def do(self):
        """Do the deed alone; return the accesses, and check the end."""
        value, made = play_alone(self.memory, Doing(DEED))
        self.assertEqual(value, self.memory.peek(STATUS))
        return made

    def mark(self, entry):
        return (DEED, STATUS, entry[1], entry[2])


def entries_of(pages):
    """Entries for these pages of a new memory of 48 pages."""
    return tuple((5 + page, 53 + page, 70 + page) for page in pages)


PAGES = (0, 1, 3, 4, 11, 12, 46, 47)


class DoneTest(AloneCase):
    def test_the_example_of_the_document(self):
        self.begin(EXAMPLE)
        made = self.do()
        self.assertEqual(made, [
            ("read", 60), ("read", 61), ("read", 5), ("swap", 5), ("read", 7), ("swap", 7),
            ("decide", 61), ("read", 61), ("swap", 5), ("swap", 7)])
        self.assertEqual(self.memory.peek(STATUS), ("done", 2 + 7))
        self.assertEqual((self.memory.peek(5), self.memory.peek(7)), (62, 63))

    def test_deeds_of_1_to_8_words(self):
        for many in range(1, 9):
            self.setUp()
            entries = entries_of(PAGES[-many:])
            self.begin(entries)
            wanted = all_cells(self.memory)
            made = self.do()
            self.assertEqual(len(made), 4 + 3 * many)
            wanted[STATUS] = ("done", 2 + 3 + 2 * many)
            for cell, _, new in entries:
                wanted[cell] = new
            self.assertEqual(all_cells(self.memory), wanted)

    def test_the_marks_just_before_the_decision(self):
        for many in range(1, 9):
            self.setUp()
            entries = entries_of(PAGES[:many])
            self.begin(entries)
            stack = Stack(Doing(DEED))
            for passed in range(many):
                self.assertEqual(self.memory.peek(entries[passed][0]), entries[passed][1])
                for _ in range(4 if passed == 0 else 2):
                    stack.step(self.memory, 0)
                self.assertEqual(self.memory.peek(entries[passed][0]), self.mark(entries[passed]))
            self.assertEqual(self.memory.peek(STATUS), 0)
            stack.step(self.memory, 0)
            self.assertEqual(self.memory.peek(STATUS), ("done", self.memory.count))
            for entry in entries:
                self.assertEqual(self.memory.peek(entry[0]), self.mark(entry))
            stack.step(self.memory, 0)
            for entry in entries:
                self.assertFalse(stack.ended())
                stack.step(self.memory, 0)
                self.assertEqual(self.memory.peek(entry[0]), entry[2])
            self.assertTrue(stack.ended())

    def test_done_again(self):
        for many in range(1, 9):
            self.setUp()
            entries = entries_of(PAGES[:many])
            self.begin(entries)
            self.do()
            cells = all_cells(self.memory)
            for _ in range(2):
                made = self.do()
                self.assertEqual(made, [("read", DEED), ("read", STATUS)]
                                 + [("swap", entry[0]) for entry in entries])
                self.assertEqual(all_cells(self.memory), cells)

    def test_done_again_behind_other_changes(self):
        self.begin(EXAMPLE)
        self.do()
        put(self.memory, 5, 53)
        put(self.memory, 7, (80, 81, 63, 90))
        cells = all_cells(self.memory)
        self.assertEqual(len(self.do()), 4)
        self.assertEqual(all_cells(self.memory), cells)

    def test_an_entry_that_changes_nothing(self):
        self.begin([(5, 53, 53), (7, 55, 63)])
        self.assertEqual(len(self.do()), 10)
        self.assertEqual((self.memory.peek(5), self.memory.peek(7)), (53, 63))


class FailedTest(AloneCase):
    def test_failed_at_each_entry(self):
        for many in range(1, 9):
            for at in range(many):
                self.setUp()
                entries = entries_of(PAGES[:many])
                self.begin(entries)
                put(self.memory, entries[at][0], 150)
                wanted = all_cells(self.memory)
                made = self.do()
                self.assertEqual(len(made), 5 + 2 * at + many)
                wanted[STATUS] = ("failed", 3 + 4 + 2 * at)
                self.assertEqual(all_cells(self.memory), wanted)

    def test_the_accesses_of_a_deed_that_fails(self):
        self.begin(EXAMPLE)
        put(self.memory, 7, 150)
        self.assertEqual(self.do(), [
            ("read", 60), ("read", 61), ("read", 5), ("swap", 5), ("read", 7),
            ("decide", 61), ("read", 61), ("swap", 5), ("swap", 7)])

    def test_the_new_address_is_another_address(self):
        self.begin(EXAMPLE)
        put(self.memory, 5, 62)
        self.assertEqual(len(self.do()), 7)
        self.assertEqual(self.memory.peek(STATUS), ("failed", 7))
        self.assertEqual(self.memory.peek(5), 62)

    def test_done_again(self):
        for many, at in ((1, 0), (3, 1), (8, 7)):
            self.setUp()
            entries = entries_of(PAGES[:many])
            self.begin(entries)
            put(self.memory, entries[at][0], 150)
            self.do()
            # What let the deed fail does not count any more.
            put(self.memory, entries[at][0], entries[at][1])
            cells = all_cells(self.memory)
            self.assertEqual(len(self.do()), 2 + many)
            self.assertEqual(all_cells(self.memory), cells)

    def test_a_decided_deed_whose_marks_are_left(self):
        for status, at in ((("done", 1), 2), (("failed", 1), 1)):
            self.setUp()
            self.begin(EXAMPLE)
            put(self.memory, STATUS, status)
            for entry in EXAMPLE:
                put(self.memory, entry[0], self.mark(entry))
            self.assertEqual(self.do(), [
                ("read", 60), ("read", 61), ("swap", 5), ("swap", 7)])
            self.assertEqual([self.memory.peek(entry[0]) for entry in EXAMPLE],
                             [entry[at] for entry in EXAMPLE])

    def test_an_undecided_deed_whose_marks_are_there(self):
        self.begin(EXAMPLE)
        for entry in EXAMPLE:
            put(self.memory, entry[0], self.mark(entry))
        self.assertEqual(self.do(), [
            ("read", 60), ("read", 61), ("read", 5), ("read", 7), ("decide", 61),
            ("read", 61), ("swap", 5), ("swap", 7)])
        self.assertEqual(self.memory.peek(STATUS), ("done", 9))


class OtherMarksTest(AloneCase):
    """Words that hold the mark of another deed, which nobody does any more."""

    def meet(self, status, old, new, cell=7):
        put(self.memory, 81, status)
        put(self.memory, 80, deed_record(81, [(cell, old, new)]))
        put(self.memory, cell, (80, 81, old, new))

    def test_the_other_deed_is_done_first(self):
        self.begin(EXAMPLE)
        self.meet(0, 54, 55)
        made = self.do()
        self.assertEqual(made, [
            ("read", 60), ("read", 61), ("read", 5), ("swap", 5), ("read", 7),
            ("read", 80), ("read", 81), ("read", 7), ("decide", 81), ("read", 81), ("swap", 7),
            ("read", 7), ("swap", 7), ("decide", 61), ("read", 61), ("swap", 5), ("swap", 7)])
        self.assertEqual(self.memory.peek(81)[0], "done")
        self.assertEqual(self.memory.peek(STATUS)[0], "done")
        self.assertEqual((self.memory.peek(5), self.memory.peek(7)), (62, 63))

    def test_the_other_deed_takes_the_old_address_away(self):
        self.begin(EXAMPLE)
        self.meet(0, 55, 90)
        self.do()
        self.assertEqual(self.memory.peek(81)[0], "done")
        self.assertEqual(self.memory.peek(STATUS)[0], "failed")
        self.assertEqual((self.memory.peek(5), self.memory.peek(7)), (53, 90))

    def test_the_other_deed_was_decided(self):
        for status, word, address in (
                (("failed", 1), "done", 63), (("done", 1), "failed", 90)):
            self.setUp()
            self.begin(EXAMPLE)
            self.meet(status, 55, 90)
            made = self.do()
            self.assertEqual(made[4:9], [
                ("read", 7), ("read", 80), ("read", 81), ("swap", 7), ("read", 7)])
            self.assertEqual(self.memory.peek(STATUS)[0], word)
            self.assertEqual(self.memory.peek(7), address)

    def test_a_chain_of_deeds(self):
        # Each deed holds the word before the one that it needs.
        memory = self.memory
        deeds = [(60 + 2 * at, 61 + 2 * at) for at in range(8)]
        for at, (deed, status) in enumerate(deeds):
            put(memory, status, 0)
            put(memory, deed, deed_record(
                status, [(5 + at, 53 + at, 90 + at), (6 + at, 54 + at, 80 + at)]))
            put(memory, 5 + at, (deed, status, 53 + at, 90 + at))
        value, _ = play_alone(memory, Doing(60))
        # The last deed is done; it takes away what the one before it needs.
        words = [memory.peek(status)[0] for _, status in deeds]
        self.assertEqual(words, ["failed", "done"] * 4)
        self.assertEqual(value, memory.peek(61))
        self.assertEqual([memory.peek(5 + at) for at in range(9)],
                         [53, 91, 81, 93, 83, 95, 85, 97, 87])


class RequestsTest(AloneCase):
    def test_asking_twice(self):
        self.begin(EXAMPLE)
        put(self.memory, 81, 0)
        put(self.memory, 80, deed_record(81, [(7, 54, 55)]))
        put(self.memory, 7, (80, 81, 54, 55))
        machine = Doing(DEED)
        while machine.request()[0] != "end":
            before = all_cells(self.memory)
            self.assertTrue(is_steady(machine))
            self.assertEqual(all_cells(self.memory), before)
            request = machine.request()
            if request[0] == "call":
                machine.accept(play_alone(self.memory, request[1])[0])
            else:
                machine.accept(self.memory.access(0, request))
        self.assertTrue(is_steady(machine))
        self.assertEqual(machine.request(), ("end", self.memory.peek(STATUS)))

    def test_each_request_in_full(self):
        self.begin([(5, 53, 62)])
        machine = Doing(DEED)
        seen = []
        while machine.request()[0] != "end":
            seen.append(machine.request())
            machine.accept(self.memory.access(0, machine.request()))
        self.assertEqual(seen, [
            ("read", 60), ("read", 61), ("read", 5), ("swap", 5, 53, (60, 61, 53, 62)),
            ("decide", 61, "done"), ("read", 61), ("swap", 5, (60, 61, 53, 62), 62)])

    def test_two_machines_share_nothing(self):
        self.begin(EXAMPLE)
        one, other = Doing(DEED), Doing(DEED)
        one.accept(self.memory.access(0, one.request()))
        self.assertEqual(other.request(), ("read", 60))
        self.assertEqual(one.request(), ("read", 61))


if __name__ == "__main__":
    unittest.main()
