"""Points [64] to [66]: the judge."""

import copy
import itertools
import random
import unittest

from espalier.histories import is_change
from espalier.judge import first_fault, judge
from espalier.world import World
from tests.plain import answer_and_map, random_call

PUT = ("put", 5, 1)
LOOK = ("look", 5)


def row(call, answer, witness, first, last, thread=0, index=0):
    return (thread, index, call, answer, witness, first, last)


def turns(*calls):
    """Rows of calls (call, answer, witness) of one thread, one after the other."""
    found = []
    for index, (call, answer, witness) in enumerate(calls):
        first = 10 * index + 1
        found.append(row(call, answer, witness, first, first + 9, 0, index))
    return found


class JudgeCase(unittest.TestCase):
    def check(self, rows, word, index=-1):
        kept = copy.deepcopy(rows)
        self.assertEqual(first_fault(rows), (word, index), rows)
        self.assertEqual(judge(rows), word)
        self.assertEqual(rows, kept)


class SoundTest(JudgeCase):
    def test_histories_without_a_fault(self):
        self.check([], "")
        self.check([row(PUT, None, 3, 1, 4)], "")
        self.check([row(PUT, None, 3, 1, 4), row(LOOK, 1, 5, 5, 7, 1)], "")
        self.check(turns((PUT, None, 5), (("put", 5, 2), 1, 15), (("take", 5), 2, 25),
                         (LOOK, None, 35), (("scan", 0, 9), [], 45)), "")

    def test_every_kind_of_call(self):
        self.check(turns(
            (PUT, None, 5), (("add", 6, 2), True, 15), (("add", 5, 3), False, 25),
            (("change", 6, 2, 4), True, 35), (("change", 6, 2, 5), False, 45),
            (LOOK, 1, 55), (("scan", 0, 9), [(5, 1), (6, 4)], 65), (("take", 5), 1, 75),
            (("take", 5), None, 85), (("put", 6, 4), 4, 95), (("put", 7, 1), "full", None),
            (("take", 6), "full", None), (("change", 6, 4, 4), True, 125)), "")

    def test_calls_that_have_not_ended(self):
        self.check([row(PUT, None, 3, 1, None), row(LOOK, 1, 4, 2, 9, 1)], "")
        self.check([row(PUT, None, None, 1, None), row(LOOK, None, 4, 2, 9, 1)], "")
        for call in (LOOK, ("scan", 0, 9), ("take", 5)):
            self.check([row(call, None, None, 7, None)], "")

    def test_the_witness_of_another_change(self):
        self.check([row(PUT, None, 9, 2, 12), row(LOOK, 1, 9, 7, 10, 1)], "")
        self.check([row(LOOK, 1, 9, 7, 10, 1), row(PUT, None, 9, 2, 12)], "")

    def test_histories_of_worlds(self):
        for seed in range(20):
            numbers = random.Random(seed)
            world = World([[random_call(numbers, 8) for _ in range(8)] for _ in range(3)], 8, 60)
            for _ in range(300):
                world.play([numbers.randrange(3)])
                if world.memory.count % 7 == 0:
                    self.check(world.history(), "")
            rows = world.history()
            numbers.shuffle(rows)
            self.assertNotIn(judge(rows), ("time", "missing", "twice", "answer", "busy"))


class TimeTest(JudgeCase):
    def test_first(self):
        for first, word in ((1, ""), (0, "time"), (-5, "time")):
            self.check([row(PUT, None, 3, first, 4)], word, 0 if word else -1)
            self.check([row(PUT, None, None, first, None)], word, 0 if word else -1)

    def test_last(self):
        self.check([row(PUT, None, 3, 3, 3)], "")
        self.check([row(PUT, "full", None, 3, 3)], "")
        self.check([row(PUT, "full", None, 3, 2)], "time", 0)
        self.check([row(("scan", 0, 9), "busy", None, 3, 1)], "time", 0)

    def test_the_witness(self):
        for witness, word in ((3, ""), (6, ""), (4, ""), (2, "time"), (7, "time"), (0, "time"),
                              (-1, "time")):
            self.check([row(PUT, None, witness, 3, 6)], word, 0 if word else -1)
        for witness, word in ((3, ""), (2, "time"), (99, "")):
            self.check([row(PUT, None, witness, 3, None)], word, 0 if word else -1)

    def test_the_example_of_the_document(self):
        rows = [row(PUT, None, 3, 1, 4), row(LOOK, None, 6, 5, 7, 1)]
        self.check(rows, "answer", 1)
        self.check([rows[0], row(LOOK, None, 2, 5, 7, 1)], "time", 1)

    def test_the_first_row_that_has_it(self):
        rows = turns((PUT, None, 5), (LOOK, 1, 25), (LOOK, 1, 2))
        self.check(rows, "time", 1)
        self.check(rows[:1] + rows[2:] + rows[1:2], "time", 1)


class ThreadTest(JudgeCase):
    def test_a_row_that_is_there_twice(self):
        rows = turns((PUT, None, 5), (LOOK, 1, 15))
        self.check(rows + [row(LOOK, 1, 25, 21, 30, 0, 1)], "thread", 2)
        self.check(rows + [row(LOOK, 1, 25, 21, 30, 1, 0)], "")
        # The call before the row 1 is that of the last row in the list with the index 0.
        self.check(rows + [row(LOOK, 1, 25, 21, 30, 0, 0)], "thread", 1)
        self.check(rows + [row(LOOK, None, None, 21, None, 0, 0)], "thread", 1)
        self.check([rows[0], rows[1], row(LOOK, 1, 8, 8, 9, 0, 0)], "thread", 2)
        self.check([rows[0], rows[1], row(LOOK, 1, 12, 12, 19, 0, 0)], "thread", 1)

    def test_an_index_that_is_missing(self):
        rows = turns((PUT, None, 5), (LOOK, 1, 15), (LOOK, 1, 25))
        self.check([rows[0], rows[2]], "thread", 1)
        self.check(rows[1:], "thread", 0)
        self.check([row(PUT, None, 5, 1, 9, 0, -1)], "thread", 0)
        self.check([rows[0], row(LOOK, 1, 15, 11, 20, 1, 1)], "thread", 1)

    def test_rows_in_any_order(self):
        rows = turns((PUT, None, 5), (LOOK, 1, 15), (LOOK, 1, 25))
        for mixed in itertools.permutations(rows):
            self.check(list(mixed), "")

    def test_the_call_before_has_not_ended(self):
        self.check([row(PUT, None, 5, 1, None), row(LOOK, 1, 15, 11, 20, 0, 1)], "thread", 1)
        self.check([row(LOOK, 1, 15, 11, 20, 0, 1), row(PUT, None, 5, 1, None)], "thread", 0)
        self.check([row(PUT, None, 5, 1, None), row(LOOK, 1, 15, 11, 20, 1, 0)], "")

    def test_the_call_before_ended_too_late(self):
        for last, word in ((10, ""), (11, "thread"), (12, "thread")):
            rows = [row(PUT, None, 5, 1, last), row(LOOK, 1, 15, 11, 20, 0, 1)]
            self.check(rows, word, 1 if word else -1)
            self.check(rows[::-1], word, 0 if word else -1)


class MissingTest(JudgeCase):
    def test_ended_without_a_witness(self):
        for call, answer in ((PUT, None), (LOOK, None), (("add", 5, 1), True),
                             (("add", 5, 1), False), (("change", 5, 1, 2), False),
                             (("take", 5), None), (("scan", 0, 9), [])):
            self.check([row(call, answer, None, 1, 4)], "missing", 0)

    def test_refused_with_a_witness(self):
        for call, answer in ((PUT, "full"), (("take", 5), "full"), (("scan", 0, 9), "busy"),
                             (("change", 5, 1, 2), "full"), (("add", 5, 1), "full")):
            self.check([row(call, answer, 3, 1, 4)], "missing", 0)

    def test_busy_calls_that_are_no_scans(self):
        for call in (PUT, LOOK, ("add", 5, 1), ("change", 5, 1, 2), ("take", 5)):
            self.check([row(call, "busy", None, 1, 4)], "missing", 0)
            self.check([row(call, "busy", 3, 1, 4)], "missing", 0)

    def test_full_calls_that_only_read(self):
        for call in (LOOK, ("scan", 0, 9)):
            self.check([row(call, "full", None, 1, 4)], "missing", 0)
            self.check([row(call, "full", 3, 1, 4)], "missing", 0)
        for call in (PUT, ("add", 5, 1), ("change", 5, 1, 2), ("take", 5)):
            self.check([row(call, "full", None, 1, 4)], "")

    def test_calls_that_only_read_and_have_not_ended(self):
        for call in (LOOK, ("scan", 0, 9)):
            self.check([row(call, None, 3, 1, None)], "missing", 0)
            self.check([row(call, None, None, 1, None)], "")
        for call in (PUT, ("add", 5, 1), ("change", 5, 1, 2), ("take", 5)):
            self.check([row(call, None, 3, 1, None)], "")


class TwiceTest(JudgeCase):
    def test_two_changes_with_one_witness(self):
        rows = [row(PUT, None, 5, 1, 9), row(("put", 6, 1), None, 5, 1, 9, 1)]
        self.check(rows, "twice", 1)
        self.check(rows[::-1], "twice", 1)
        self.check([rows[0], row(LOOK, 1, 5, 1, 9, 2), rows[1]], "twice", 2)

    def test_a_call_that_has_not_ended(self):
        rows = [row(PUT, None, 5, 1, None), row(("put", 6, 1), None, 5, 1, 9, 1)]
        self.check(rows, "twice", 1)
        self.check(rows[::-1], "twice", 1)

    def test_a_change_and_rows_that_only_read(self):
        for call, answer in ((LOOK, 1), (PUT, 1), (("add", 5, 3), False),
                             (("change", 5, 1, 1), True), (("take", 6), None),
                             (("scan", 0, 9), [(5, 1)])):
            self.check([row(PUT, None, 5, 1, 9), row(call, answer, 5, 1, 9, 1)], "")
            self.check([row(call, answer, 5, 1, 9, 1), row(PUT, None, 5, 1, 9)], "")

    def test_witnesses_beside_each_other(self):
        for witness in (4, 6):
            self.check([row(PUT, None, 5, 1, 9), row(("put", 6, 1), None, witness, 1, 9, 1)], "")


class AnswerTest(JudgeCase):
    def test_each_kind_of_call(self):
        for call, answer, wrong in (
                (LOOK, 1, (None, 0, 2, True, False, [1])),
                (("put", 5, 7), 1, (None, 0, 2, True, False)),
                (("add", 5, 7), False, (True, None, 0, 1)),
                (("add", 6, 7), True, (False, None, 1)),
                (("change", 5, 1, 2), True, (False, None, 1)),
                (("change", 5, 2, 1), False, (True, None, 0)),
                (("change", 6, 2, 1), False, (True, None, 0)),
                (("change", 5, 1, 1), True, (False, None, 1)),
                (("take", 5), 1, (None, 0, 2, True)),
                (("take", 6), None, (0, 1, False)),
                (("scan", 5, 6), [(5, 1)], ([], [(5, 2)], [(5, 1), (6, 1)], None, [(5, True)],
                                            [[5, 1]], ((5, 1),), [(5, 1, 1)])),
                (("scan", 6, 9), [], (None, [(5, 1)], (), False))):
            self.check(turns((PUT, None, 5), (call, answer, 15)), "")
            for other in wrong:
                self.check(turns((PUT, None, 5), (call, other, 15)), "answer", 1)

    def test_huge_numbers(self):
        huge = 10 ** 40
        self.check(turns((("put", huge, -huge), None, 5), (("look", huge), -huge, 15)), "")
        self.check(turns((("put", huge, -huge), None, 5), (("look", huge), 1 - huge, 15)),
                   "answer", 1)

    def test_the_order_is_that_of_the_witnesses(self):
        rows = [row(LOOK, 1, 8, 1, 9), row(PUT, None, 5, 1, 9, 1)]
        self.check(rows, "")
        self.check([row(LOOK, 1, 4, 1, 9), rows[1]], "answer", 0)
        # The look at 8 is wrong, and so is the put at 5, which is earlier in this order.
        self.check([row(LOOK, 7, 8, 1, 9), row(PUT, 3, 5, 1, 9, 1)], "answer", 1)

    def test_a_change_that_has_not_ended_counts(self):
        begun = row(PUT, None, 5, 1, None)
        self.check([begun, row(LOOK, 1, 6, 1, 9, 1)], "")
        self.check([begun, row(LOOK, None, 6, 1, 9, 1)], "answer", 1)
        self.check([begun, row(LOOK, None, 4, 1, 9, 1)], "")

    def test_calls_that_were_refused_do_not_count(self):
        self.check(turns((PUT, "full", None), (LOOK, None, 15)), "")
        self.check(turns((PUT, "full", None), (LOOK, 1, 15)), "answer", 1)


class BusyTest(JudgeCase):
    def busy(self, witnesses, first=10, last=20, before=()):
        """A scan that is busy, and puts with these witnesses by a thread each."""
        rows = [row(("scan", 0, 9), "busy", None, first, last)]
        for at, witness in enumerate(witnesses):
            rows.append(row(("put", at, 1), None, witness, 1, 99, at + 1))
        return rows + list(before)

    def test_the_number_of_changes(self):
        self.check(self.busy([11, 12, 13, 14]), "")
        self.check(self.busy([11, 12, 13, 14, 15]), "")
        for witnesses in ([], [11], [11, 12, 13]):
            self.check(self.busy(witnesses), "busy", 0)

    def test_the_bounds(self):
        self.check(self.busy([10, 12, 13, 20]), "")
        self.check(self.busy([9, 12, 13, 20]), "busy", 0)
        self.check(self.busy([10, 12, 13, 21]), "busy", 0)

    def test_rows_that_only_read_do_not_count(self):
        rows = self.busy([11, 12, 13])
        self.check(rows + [row(("look", 7), None, 14, 1, 99, 8)], "busy", 0)
        self.check(rows + [row(("put", 0, 1), 1, 14, 1, 99, 8)], "busy", 0)
        self.check(rows + [row(("put", 7, 1), "full", None, 1, 99, 8)], "busy", 0)
        self.check(rows + [row(("put", 7, 1), None, 14, 1, None, 8)], "")

    def test_the_first_row_that_has_it(self):
        rows = self.busy([11, 12, 13, 14])
        late = row(("scan", 0, 9), "busy", None, 12, 20, 8)
        self.check(rows + [late], "busy", 5)
        self.check([late] + rows, "busy", 0)


class TwoFaultsTest(JudgeCase):
    """The faults are looked for in their order, each at all rows."""

    # One history for each fault, of a thread each; no two use the same key.
    FAULTS = (
        ("time", lambda t: [row(("look", t), None, 999, 1, 9, t)]),
        ("thread", lambda t: [row(("look", t), None, 5, 1, 9, t, 1)]),
        ("missing", lambda t: [row(("look", t), None, None, 1, 9, t)]),
        ("twice", lambda t: [row(("put", t, 1), None, 700 + t, 699, 799, t),
                             row(("put", t + 100, 1), None, 700 + t, 699, 799, t + 100)]),
        ("answer", lambda t: [row(("look", t), 77, 5, 1, 9, t)]),
        ("busy", lambda t: [row(("scan", 0, 9), "busy", None, 1, 9, t)]),
    )

    def test_each_alone(self):
        for word, make in self.FAULTS:
            rows = make(7)
            self.check(rows, word, len(rows) - 1)

    def test_two_of_them(self):
        for one, other in itertools.combinations(range(len(self.FAULTS)), 2):
            word = self.FAULTS[one][0]
            first, second = self.FAULTS[one][1](7), self.FAULTS[other][1](9)
            self.check(first + second, word, len(first) - 1)
            self.check(second + first, word, len(second) + len(first) - 1)

    def test_all_of_them(self):
        parts = [make(7 + at) for at, (_, make) in enumerate(self.FAULTS)]
        for start in range(len(self.FAULTS)):
            rows = [each for part in parts[:start:-1] + parts[start:start + 1] for each in part]
            self.check(rows, self.FAULTS[start][0], len(rows) - 1)

    def test_one_row_with_several_faults(self):
        self.check([row(LOOK, 7, 99, 1, 9, 0, 3)], "time", 0)
        self.check([row(LOOK, 7, None, 1, 9, 0, 3)], "thread", 0)
        self.check([row(LOOK, "busy", 3, 1, 9)], "missing", 0)


class BentTest(JudgeCase):
    """Histories of worlds in which one thing is bent."""

    def history(self, seed):
        numbers = random.Random(seed)
        world = World([[random_call(numbers, 6) for _ in range(6)] for _ in range(3)], 8, 90)
        while not all(world.idle(thread) for thread in range(3)):
            world.play([numbers.randrange(3)])
        return world.history()

    def test_another_answer(self):
        for seed in range(15):
            rows = self.history(seed)
            for at, each in enumerate(rows):
                if each[2][0] == "look" and each[4] is not None:
                    other = 3 if each[3] is None else None
                    self.check(rows[:at] + [each[:3] + (other,) + each[4:]] + rows[at + 1:],
                               "answer", at)

    def test_another_witness(self):
        found = {}
        for seed in range(15):
            rows = self.history(seed)
            for at, each in enumerate(rows):
                if each[4] is None:
                    continue
                for witness in (each[5] - 1, each[6] + 1):
                    bent = rows[:at] + [each[:4] + (witness,) + each[5:]] + rows[at + 1:]
                    self.check(bent, "time", at)
                for witness in range(each[5], each[6] + 1):
                    bent = rows[:at] + [each[:4] + (witness,) + each[5:]] + rows[at + 1:]
                    word = judge(bent)
                    self.assertEqual(word, self.word_of(bent))
                    found[word] = found.get(word, 0) + 1
        self.assertGreater(found["answer"], 10)
        self.assertGreater(found[""], 100)

    def word_of(self, rows):
        """The fault of a history whose times and threads are right, worked out anew."""
        changes = [each[4] for each in rows if is_change(each)]
        if len(changes) != len(set(changes)):
            return "twice"
        plain = {}
        placed = [each for each in rows if each[4] is not None]
        for each in sorted(placed, key=lambda each: (each[4], not is_change(each))):
            answer, plain = answer_and_map(plain, each[2])
            if answer != each[3]:
                return "answer"
        return ""


if __name__ == "__main__":
    unittest.main()
