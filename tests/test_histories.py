"""Points [42] and [59] to [63]: answers on a plain map, and histories."""

import copy
import itertools
import random
import unittest

from espalier.histories import (
    after_call, answer_of, changes_between, in_order, is_change, map_at, precedes)
from tests.plain import answer_and_map, random_call

HUGE = 10 ** 30

PLAIN = {5: 50, 0: 0, -7: 3, HUGE: -HUGE, -HUGE: 1}
# Calls on PLAIN: the answer, and what becomes of the key.
KEY_CALLS = (
    (("look", 5), 50, 50), (("look", 0), 0, 0), (("look", 6), None, None),
    (("look", HUGE), -HUGE, -HUGE), (("look", HUGE + 1), None, None),
    (("put", 5, 7), 50, 7), (("put", 5, 50), 50, 50), (("put", 6, 7), None, 7),
    (("put", 0, 1), 0, 1), (("put", HUGE, HUGE), -HUGE, HUGE), (("put", 6, 0), None, 0),
    (("add", 5, 7), False, 50), (("add", 5, 50), False, 50), (("add", 0, 1), False, 0),
    (("add", 6, 7), True, 7), (("add", HUGE + 1, -HUGE), True, -HUGE),
    (("change", 5, 50, 7), True, 7), (("change", 5, 51, 7), False, 50),
    (("change", 5, 50, 50), True, 50), (("change", 5, 7, 7), False, 50),
    (("change", 0, 0, 1), True, 1), (("change", 6, 0, 1), False, None),
    (("change", HUGE, -HUGE, 0), True, 0), (("change", 6, 7, 7), False, None),
    (("take", 5), 50, None), (("take", 0), 0, None), (("take", 6), None, None),
    (("take", -HUGE), 1, None))
SCANS = (
    (0, 6, [(0, 0), (5, 50)]), (0, 5, [(0, 0)]), (1, 6, [(5, 50)]), (5, 6, [(5, 50)]),
    (6, 9, []), (5, 5, []), (6, 0, []), (-7, 1, [(-7, 3), (0, 0)]),
    (-HUGE, HUGE, [(-HUGE, 1), (-7, 3), (0, 0), (5, 50)]),
    (-HUGE + 1, HUGE + 1, [(-7, 3), (0, 0), (5, 50), (HUGE, -HUGE)]))


class AnswersTest(unittest.TestCase):
    def test_calls_for_one_key(self):
        for call, answer, after in KEY_CALLS:
            plain = dict(PLAIN)
            found = answer_of(plain, call)
            self.assertEqual((found, type(found)), (answer, type(answer)), call)
            wanted = dict(PLAIN)
            wanted.pop(call[1], None)
            if after is not None:
                wanted[call[1]] = after
            self.assertEqual(after_call(plain, call), wanted, call)
            self.assertEqual(plain, PLAIN)

    def test_scans(self):
        for low, high, answer in SCANS:
            plain = dict(PLAIN)
            self.assertEqual(answer_of(plain, ("scan", low, high)), answer)
            self.assertEqual(after_call(plain, ("scan", low, high)), PLAIN)
            self.assertEqual(list(plain.items()), list(PLAIN.items()))

    def test_an_empty_map(self):
        for call, answer, behind in (
                (("look", 5), None, {}), (("put", 5, 1), None, {5: 1}),
                (("add", 5, 1), True, {5: 1}), (("change", 5, 1, 2), False, {}),
                (("take", 5), None, {}), (("scan", 0, 9), [], {})):
            self.assertEqual(answer_of({}, call), answer)
            self.assertEqual(after_call({}, call), behind)

    def test_the_dict_is_a_new_one(self):
        for call in (("look", 5), ("scan", 0, 9), ("put", 5, 50), ("take", 6)):
            plain = dict(PLAIN)
            found = after_call(plain, call)
            found[77] = 1
            self.assertEqual(plain, PLAIN)
            plain[78] = 1
            self.assertNotIn(78, found)

    def test_many_calls_one_after_the_other(self):
        for seed in range(30):
            numbers = random.Random(seed)
            plain = {}
            for _ in range(100):
                call = random_call(numbers, 6)
                answer, behind = answer_and_map(plain, call)
                self.assertEqual(answer_of(plain, call), answer)
                plain = after_call(plain, call)
                self.assertEqual(plain, behind)


def row(call, answer, witness, first=1, last=90, thread=0, index=0):
    return (thread, index, call, answer, witness, first, last)


def begun(call, witness, first=1):
    """The row of a call that has not ended."""
    return row(call, None, witness, first, None)


class IsChangeTest(unittest.TestCase):
    CHANGES = (
        row(("put", 5, 1), None, 3), row(("put", 5, 1), 2, 3), row(("put", 5, 1), 0, 3),
        row(("put", 5, 0), 1, 3), row(("add", 5, 1), True, 3), row(("add", 5, 0), True, 3),
        row(("change", 5, 1, 2), True, 3), row(("change", 5, 1, 0), True, 3),
        row(("take", 5), 7, 3), row(("take", 5), 0, 3),
        begun(("put", 5, 1), 3), begun(("add", 5, 1), 3), begun(("change", 5, 1, 2), 3),
        begun(("take", 5), 3), begun(("change", 5, 1, 1), 3), begun(("look", 5), 3),
        begun(("scan", 5, 7), 3))
    READERS = (
        row(("put", 5, 1), 1, 3), row(("put", 5, 0), 0, 3), row(("add", 5, 1), False, 3),
        row(("change", 5, 1, 2), False, 3), row(("change", 5, 1, 1), True, 3),
        row(("change", 5, 1, 1), False, 3), row(("take", 5), None, 3),
        row(("look", 5), None, 3), row(("look", 5), 7, 3), row(("scan", 5, 7), [], 3),
        row(("scan", 5, 7), [(5, 1)], 3))

    def test_changes(self):
        for each in self.CHANGES:
            self.assertIs(is_change(each), True, each)

    def test_rows_that_only_read(self):
        for each in self.READERS:
            self.assertIs(is_change(each), False, each)

    def test_rows_that_did_not_take_place(self):
        for each in self.CHANGES + self.READERS:
            self.assertIs(is_change(each[:4] + (None,) + each[5:]), False)
        for call, answer in ((("put", 5, 1), "full"), (("take", 5), "full"),
                             (("scan", 0, 9), "busy"), (("add", 5, 1), "full")):
            self.assertIs(is_change(row(call, answer, None)), False)

    def test_true_is_not_1(self):
        self.assertIs(is_change(row(("put", 5, 1), True, 3)), True)
        self.assertIs(is_change(row(("put", 5, 0), False, 3)), True)
        self.assertIs(is_change(row(("add", 5, 1), 1, 3)), False)
        self.assertIs(is_change(row(("change", 5, 1, 2), 1, 3)), False)
        self.assertIs(is_change(row(("take", 5), False, 3)), True)


class OrderTest(unittest.TestCase):
    EXAMPLE = [(0, 0, ("put", 5, 1), None, 9, 2, 12), (1, 0, ("look", 5), 1, 9, 7, 10)]

    def test_the_example_of_the_document(self):
        for rows, order in ((self.EXAMPLE, [0, 1]), (self.EXAMPLE[::-1], [1, 0])):
            self.assertEqual(in_order(rows), order)
            self.assertEqual(map_at(rows, 8), {})
            self.assertEqual(map_at(rows, 9), {5: 1})

    def test_by_witness(self):
        rows = [row(("look", 5), None, witness) for witness in (7, 3, 9, 1, 8)]
        self.assertEqual(in_order(rows), [3, 1, 0, 4, 2])
        self.assertEqual(in_order([]), [])
        # Thread and index tell nothing here.
        rows = [row(("look", 5), None, witness, thread=3 - at, index=9 - at)
                for at, witness in enumerate((2, 1, 4, 3))]
        self.assertEqual(in_order(rows), [1, 0, 3, 2])

    def test_rows_that_did_not_take_place(self):
        rows = [row(("put", 5, 1), "full", None), row(("put", 5, 1), None, 4),
                begun(("put", 5, 2), None), row(("scan", 5, 7), "busy", None),
                begun(("put", 5, 3), 2)]
        self.assertEqual(in_order(rows), [4, 1])
        self.assertEqual(in_order(rows[2:4]), [])

    def test_equal_witnesses(self):
        rows = [row(("look", 5), 1, 9), row(("put", 5, 1), None, 9), row(("add", 5, 7), False, 9),
                row(("put", 5, 1), 1, 9), begun(("take", 5), 9), row(("scan", 0, 9), [], 9),
                row(("look", 6), None, 8), row(("take", 6), None, 10)]
        self.assertEqual(in_order(rows), [6, 1, 4, 0, 2, 3, 5, 7])

    def test_every_order_of_the_rows(self):
        rows = [row(("put", 5, 1), None, 3), row(("look", 5), 1, 3), row(("put", 6, 2), None, 4),
                row(("take", 5), 1, 5)]
        for places in itertools.permutations(range(4)):
            mixed = [rows[at] for at in places]
            found = [mixed[index] for index in in_order(mixed)]
            self.assertEqual(found, rows)
            self.assertEqual([map_at(mixed, number) for number in range(2, 7)], [
                {}, {5: 1}, {5: 1, 6: 2}, {6: 2}, {6: 2}])


class MapTest(unittest.TestCase):
    def test_changes_up_to_a_number(self):
        rows = [row(("put", 5, 1), None, 3), row(("change", 5, 1, 2), True, 6),
                row(("take", 5), 2, 9), begun(("add", 7, 7), 8), row(("put", 6, 1), "full", None),
                row(("look", 5), 1, 4)]
        for number, wanted in ((-1, {}), (0, {}), (2, {}), (3, {5: 1}), (5, {5: 1}), (6, {5: 2}),
                               (7, {5: 2}), (8, {5: 2, 7: 7}), (9, {7: 7}), (HUGE, {7: 7})):
            self.assertEqual(map_at(rows, number), wanted)

    def test_rows_that_only_read_make_nothing(self):
        # By its answer this put found its value there, and the add its key.
        rows = [row(("put", 5, 1), 1, 3), row(("add", 6, 1), False, 3),
                row(("take", 7), None, 3), row(("change", 5, 1, 2), False, 3)]
        self.assertEqual(map_at(rows, 9), {})

    def test_the_map_is_a_new_one(self):
        rows = [row(("put", 5, 1), None, 3)]
        kept = copy.deepcopy(rows)
        map_at(rows, 9)[6] = 1
        self.assertEqual((map_at(rows, 9), rows), ({5: 1}, kept))

    def test_changes_between(self):
        rows = [row(("put", 5, 1), None, 3), row(("look", 5), 1, 4), row(("put", 5, 2), 1, 6),
                begun(("take", 5), 6), row(("put", 5, 2), "full", None), begun(("put", 5, 1), None),
                row(("add", 5, 9), True, 8), row(("put", 5, 9), 9, 5)]
        for first, last, many in ((1, 9, 4), (3, 8, 4), (4, 8, 3), (3, 7, 3), (4, 7, 2), (6, 6, 2),
                                  (4, 5, 0), (3, 3, 1), (8, 8, 1), (8, 3, 0), (9, 99, 0)):
            self.assertEqual(changes_between(rows, first, last), many)
        self.assertEqual(changes_between([], 0, 9), 0)

    def test_precedes(self):
        rows = [row(("look", 5), None, 2, 1, 4), row(("look", 5), None, 4, 4, 6),
                row(("look", 5), None, 6, 5, 8), row(("look", 5), "busy", None, 9, 9),
                begun(("put", 5, 1), 3, 2), begun(("put", 5, 1), None, 10)]
        found = {(one, other) for one in range(6) for other in range(6)
                 if precedes(rows, one, other)}
        self.assertEqual(found, {(0, 2), (0, 3), (0, 5), (1, 3), (1, 5), (2, 3), (2, 5), (3, 5)})
        for one in range(6):
            for other in range(6):
                self.assertIsInstance(precedes(rows, one, other), bool)

    def test_nothing_is_changed(self):
        rows = [row(("put", 5, 1), None, 3), row(("scan", 0, 9), [(5, 1)], 4)]
        kept = copy.deepcopy(rows)
        in_order(rows).append(7)
        changes_between(rows, 1, 9)
        precedes(rows, 0, 1)
        is_change(rows[0])
        self.assertEqual(rows, kept)
        self.assertEqual(in_order(rows), [0, 1])


if __name__ == "__main__":
    unittest.main()
