"""Points [12] to [18]: several threads that do deeds with common words."""

import itertools
import random
import unittest

from espalier.deeds import Doing, deed_record
from espalier.machines import Stack
from espalier.memory import Layout, Memory
from espalier.reads import Shown, shown_now
from tests.scripts import Recaller, put

PAGES = 8
FIRST_DEED = 60
# More accesses than any thread needs alone for its deeds and those of all others.
ENOUGH = 400


def shown_in(memory, page):
    """The shown value of a word, straight from the words of point [11]."""
    value = memory.peek(5 + page)
    if isinstance(value, int):
        return value
    outcome = memory.peek(value[1])
    if outcome == 0 or outcome[0] == "failed":
        return value[2]
    return value[3]


class Play:
    """Threads in one memory, looked at behind each access.

    `deeds` are lists of (page, old, new). `tasks` has a list for each thread:
    an integer is the index of a deed to do, ("read", page) a reading.
    """

    def __init__(self, case, deeds, tasks):
        self.case = case
        self.memory = Memory(Layout(4, PAGES, 100))
        self.deeds = deeds
        for index, entries in enumerate(deeds):
            deed, status = self.cells_of(index)
            put(self.memory, status, 0)
            put(self.memory, deed, deed_record(
                status, [(5 + page, old, new) for page, old, new in entries]))
        self.tasks = tasks
        self.rows = [Recaller([self.machine_of(task) for task in row]) for row in tasks]
        self.stacks = [Stack(row) for row in self.rows]
        self.base = self.memory.count
        self.moments = [self.shown()]
        self.began = {}

    def cells_of(self, index):
        return FIRST_DEED + 2 * index, FIRST_DEED + 2 * index + 1

    def machine_of(self, task):
        if isinstance(task, int):
            return Doing(self.cells_of(task)[0])
        return Shown(self.memory.layout, task[1])

    def outcome(self, index):
        return self.memory.peek(self.cells_of(index)[1])

    def shown(self):
        return [shown_in(self.memory, page) for page in range(PAGES)]

    def shown_at(self, number):
        return self.moments[number - self.base]

    def marks(self):
        values = [self.memory.peek(5 + page) for page in range(PAGES)]
        return [(page, value[0]) for page, value in enumerate(values)
                if isinstance(value, tuple)]

    def step(self, thread):
        """Make the thread's next access and look at everything."""
        done = len(self.rows[thread].values)
        before = self.marks()
        if not self.stacks[thread].step(self.memory, thread):
            return False
        number = self.memory.count
        self.began.setdefault((thread, done), number)
        self.moments.append(self.shown())
        self.case.assertEqual(
            [shown_now(self.memory, page) for page in range(PAGES)], self.moments[-1])
        self.check_change(before)
        if len(self.rows[thread].values) > done:
            self.check_end(thread, done)
        return True

    def check_change(self, before):
        """Shown values change at deciding accesses only, and all at once."""
        number, _, kind, cell = self.memory.log()[-1]
        wanted = list(self.moments[-2])
        if kind == "decide" and self.memory.peek(cell) == ("done", number):
            for page, old, new in self.deeds[(cell - FIRST_DEED) // 2]:
                self.case.assertIn((page, cell - 1), before)
                self.case.assertEqual(wanted[page], old)
                wanted[page] = new
        self.case.assertEqual(self.moments[-1], wanted)

    def check_end(self, thread, index):
        task = self.tasks[thread][index]
        value = self.rows[thread].values[index]
        if isinstance(task, int):
            self.case.assertEqual(value, self.outcome(task))
            self.case.assertIn(value[0], ("done", "failed"))
            self.case.assertLessEqual(value[1], self.memory.count)
            return
        address, access = value
        self.case.assertLessEqual(self.began[(thread, index)], access)
        self.case.assertLessEqual(access, self.memory.count)
        self.case.assertEqual(self.shown_at(access)[task[1]], address)

    def run(self, thread):
        """Let one thread go on until it has ended."""
        made = 0
        while self.step(thread):
            made += 1
            self.case.assertLess(made, ENOUGH)
        return made

    def steps(self, thread, many):
        for _ in range(many):
            self.step(thread)

    def check_outcomes(self):
        """Point [17], and the words that follow from the deeds that are done."""
        first = self.moments[0]
        outcomes = [self.outcome(index) for index in range(len(self.deeds))]
        done = sorted((outcome[1], index) for index, outcome in enumerate(outcomes)
                      if outcome != 0 and outcome[0] == "done")
        words = list(first)
        for _, index in done:
            for page, old, new in self.deeds[index]:
                self.case.assertEqual(words[page], old)
                words[page] = new
        self.case.assertEqual(self.shown(), words)
        for index, outcome in enumerate(outcomes):
            if outcome != 0 and outcome[0] == "failed":
                self.check_failed(index, outcome[1])

    def check_failed(self, index, number):
        begins = [access for (thread, at), access in self.began.items()
                  if self.tasks[thread][at] == index]
        moments = self.moments[min(begins) - self.base:number - self.base + 1]
        self.case.assertTrue(any(
            moment[page] != old for moment in moments for page, old, _ in self.deeds[index]))

    def check_marks(self):
        """A deed that is done and was done to the end by somebody has no mark."""
        for _, deed in self.marks():
            index = (deed - FIRST_DEED) // 2
            outcome = self.outcome(index)
            if outcome != 0 and outcome[0] == "done":
                ended = [row[at] for row, held in zip(self.tasks, self.rows)
                         for at in range(len(held.values))]
                self.case.assertNotIn(index, ended)

    def finish(self, threads):
        """Let these threads end; the others have stopped."""
        for thread in threads:
            self.run(thread)
        self.check_outcomes()
        self.check_marks()
        if len(threads) == len(self.tasks):
            self.case.assertEqual(self.marks(), [])

    def finish_all(self):
        self.finish(range(len(self.tasks)))


SAME = [[(0, 13, 40), (3, 16, 41), (7, 20, 42)]]
MEETING = [[(0, 13, 40), (1, 14, 41)], [(1, 14, 42), (2, 15, 43)]]
FOLLOWING = [[(0, 13, 40), (1, 14, 41)], [(1, 41, 42), (2, 15, 43)]]
TRIANGLE = [[(0, 13, 40), (1, 14, 41)], [(1, 14, 42), (2, 15, 43)], [(0, 13, 44), (2, 15, 45)]]
LONG = [[(page, 13 + page, 40 + page) for page in range(8)],
        [(page, 13 + page, 50 + page) for page in (0, 2, 4, 6, 7)]]
# The second word never fits, so the deed fails whoever does it.
FAILING = [[(0, 13, 40), (1, 99, 41), (2, 15, 42)], [(0, 13, 43)]]


class PairsTest(unittest.TestCase):
    """Two threads: each may be interrupted at each of its accesses."""

    def play_pairs(self, deeds, tasks, most=18):
        for one in range(most):
            for other in range(most):
                play = Play(self, deeds, tasks)
                play.steps(0, one)
                play.steps(1, other)
                play.finish_all()

    def test_the_same_deed(self):
        self.play_pairs(SAME, [[0], [0]], 15)

    def test_two_deeds_with_a_common_word(self):
        self.play_pairs(MEETING, [[0], [1]])
        self.play_pairs(MEETING, [[1], [0]])

    def test_a_deed_that_needs_another_one(self):
        self.play_pairs(FOLLOWING, [[0], [1]])
        self.play_pairs(FOLLOWING, [[1], [0]])

    def test_a_deed_that_fails(self):
        self.play_pairs(FAILING, [[0], [0, 1]])

    def test_deeds_with_many_words(self):
        play = Play(self, LONG, [[0], [1]])
        play.finish_all()
        self.assertEqual([play.outcome(0)[0], play.outcome(1)[0]], ["done", "failed"])
        for one in range(0, 30, 3):
            for other in range(0, 22, 3):
                play = Play(self, LONG, [[0], [1]])
                play.steps(0, one)
                play.steps(1, other)
                play.finish_all()

    def test_exactly_one_of_two_deeds_for_the_same_word(self):
        for one in range(10):
            for other in range(10):
                play = Play(self, [[(0, 13, 40)], [(0, 13, 41)]], [[0], [1]])
                play.steps(0, one)
                play.steps(1, other)
                play.finish_all()
                words = sorted([play.outcome(0)[0], play.outcome(1)[0]])
                self.assertEqual(words, ["done", "failed"])


class AllOrdersTest(unittest.TestCase):
    """Every order of the accesses of two threads with small deeds."""

    def play_all(self, deeds, tasks, most):
        seen = set()
        for places in itertools.combinations(range(2 * most), most):
            play = Play(self, deeds, tasks)
            for at in range(2 * most):
                play.step(0 if at in places else 1)
            play.finish_all()
            seen.add(tuple(play.outcome(index)[0] for index in range(len(deeds))))
        return seen

    def test_the_same_deed_of_one_word(self):
        self.assertEqual(self.play_all([[(0, 13, 40)]], [[0], [0]], 6), {("done",)})

    def test_two_deeds_of_the_same_word(self):
        seen = self.play_all([[(0, 13, 40)], [(0, 13, 41)]], [[0], [1]], 6)
        self.assertEqual(seen, {("done", "failed"), ("failed", "done")})

    def test_readings_beside_a_deed(self):
        reads = [("read", 0), ("read", 1), ("read", 0), ("read", 1)]
        self.play_all([[(0, 13, 40), (1, 14, 41)]], [[0], reads], 6)


class StopsTest(unittest.TestCase):
    """Threads that stop in the middle, and sometimes wake again."""

    def play_stop(self, deeds, tasks, most, wake):
        for stop in range(most):
            play = Play(self, deeds, tasks)
            play.steps(0, stop)
            others = range(1, len(tasks))
            for _ in range(7):
                for thread in others:
                    play.step(thread)
            play.finish(list(others))
            if wake:
                play.finish_all()

    def test_one_of_two_stops(self):
        for wake in (False, True):
            self.play_stop(SAME, [[0], [0]], 14, wake)
            self.play_stop(MEETING, [[0], [1]], 14, wake)
            self.play_stop(FOLLOWING, [[0], [1]], 14, wake)
            self.play_stop(LONG, [[0], [1]], 30, wake)
            self.play_stop(LONG, [[1], [0]], 30, wake)

    def test_one_of_three_stops(self):
        for wake in (False, True):
            for order in itertools.permutations(range(3)):
                tasks = [[index] for index in order]
                self.play_stop(TRIANGLE, tasks, 16, wake)

    def test_all_but_one_stop_within_their_deeds(self):
        for one in range(0, 14):
            for other in range(0, 14):
                play = Play(self, TRIANGLE, [[0], [1], [2]])
                play.steps(0, one)
                play.steps(1, other)
                play.finish([2])

    def test_another_thread_does_what_was_left(self):
        for stop in range(2, 14):
            play = Play(self, MEETING, [[0], [1], [0, 1]])
            play.steps(0, stop)
            play.steps(1, 14 - stop)
            play.finish([2])
            self.assertEqual(play.marks(), [])
            self.assertEqual([play.outcome(0)[0], play.outcome(1)[0]].count("done"), 1)

    def test_a_deed_that_nobody_needs_stays_undecided(self):
        play = Play(self, [[(0, 13, 40)], [(1, 14, 41)]], [[0], [1]])
        play.steps(0, 4)
        self.assertEqual(play.run(1), 7)
        self.assertEqual(play.outcome(0), 0)
        self.assertEqual(play.marks(), [(0, FIRST_DEED)])
        self.assertEqual(play.shown()[:2], [13, 41])


class LateHelperTest(unittest.TestCase):
    """Point [18]: the mark of a failed deed comes back."""

    def late(self, tasks):
        """Thread 1 is about to swap when thread 0 does the deed, which fails."""
        play = Play(self, FAILING, tasks)
        play.steps(1, 3)
        play.run(0)
        self.assertEqual(play.outcome(0)[0], "failed")
        self.assertEqual(play.marks(), [])
        play.step(1)
        self.assertEqual(play.marks(), [(0, FIRST_DEED)])
        self.assertEqual(play.shown()[0], 13)
        return play

    def test_the_helper_cleans_it(self):
        play = self.late([[0], [0]])
        # A word, the decision, the status, and the three words.
        self.assertEqual(play.run(1), 6)
        play.finish_all()
        self.assertEqual(play.shown()[:3], [13, 14, 15])

    def test_the_helper_stops_and_another_thread_cleans_it(self):
        play = self.late([[0], [0], [1]])
        # Its own deed alone makes 7 accesses; 2 + 3 for the failed one, and
        # the word is read again.
        self.assertEqual(play.run(2), 13)
        self.assertEqual(play.outcome(1)[0], "done")
        self.assertEqual(play.marks(), [])
        self.assertEqual(play.shown()[0], 43)
        play.finish_all()
        self.assertEqual(play.shown()[0], 43)

    def test_nobody_meets_it(self):
        play = self.late([[0], [0], [("read", 0)]])
        play.finish([0, 2])
        self.assertEqual(play.marks(), [(0, FIRST_DEED)])
        self.assertEqual(play.rows[2].values[0][0], 13)


class ReadAgainTest(unittest.TestCase):
    """A word is read again if its swap did not succeed."""

    def test_another_mark_came_between(self):
        play = Play(self, MEETING, [[1], [0]])
        play.steps(0, 3)
        play.steps(1, 6)
        self.assertEqual(play.marks(), [(0, 60), (1, 60)])
        before = play.memory.count
        play.steps(0, 2)
        self.assertEqual([row[2:] for row in play.memory.log()[before:]],
                         [("swap", 6), ("read", 6)])
        # The mark of the other deed: that one is done first.
        play.steps(0, 2)
        self.assertEqual([row[2:] for row in play.memory.log()[-2:]],
                         [("read", 60), ("read", 61)])
        play.finish_all()
        self.assertEqual([play.outcome(0)[0], play.outcome(1)[0]], ["done", "failed"])

    def test_the_own_mark_came_between(self):
        play = Play(self, SAME, [[0], [0]])
        play.steps(0, 3)
        play.steps(1, 4)
        before = play.memory.count
        play.steps(0, 3)
        self.assertEqual([row[2:] for row in play.memory.log()[before:]],
                         [("swap", 5), ("read", 5), ("read", 8)])
        play.finish_all()
        self.assertEqual(play.outcome(0)[0], "done")

    def test_a_decision_that_comes_too_late(self):
        # Both pass all words; the second decision does not succeed.
        play = Play(self, SAME, [[0], [0]])
        play.steps(0, 8)
        play.steps(1, 5)
        play.step(0)
        number = play.memory.count
        self.assertEqual(play.outcome(0), ("done", number))
        play.finish_all()
        self.assertEqual(play.outcome(0), ("done", number))
        self.assertEqual([row.values for row in play.rows], [[("done", number)]] * 2)


class ManyOrdersTest(unittest.TestCase):
    """Orders and deeds by numbers of a fixed beginning."""

    def new_play(self, numbers):
        deeds = []
        words = [[13 + page] for page in range(PAGES)]
        for index in range(numbers.randint(2, 6)):
            pages = sorted(numbers.sample(range(PAGES), numbers.randint(1, 4)))
            entries = []
            for page in pages:
                # No address is used anew, as epochs see to it.
                new = 200 + 10 * index + page
                entries.append((page, numbers.choice(words[page]), new))
                words[page].append(new)
            deeds.append(entries)
        tasks = []
        for _ in range(numbers.randint(2, 3)):
            tasks.append([numbers.randrange(len(deeds)) for _ in range(3)])
        tasks.append([("read", numbers.randrange(PAGES)) for _ in range(12)])
        return Play(self, deeds, tasks)

    def test_all_threads_go_on(self):
        for seed in range(250):
            numbers = random.Random(seed)
            play = self.new_play(numbers)
            for _ in range(numbers.randint(20, 120)):
                thread = numbers.randrange(len(play.tasks))
                play.steps(thread, numbers.choice((1, 1, 1, 2, 5)))
            play.finish_all()

    def test_threads_stop_and_wake(self):
        for seed in range(250):
            numbers = random.Random(1000 + seed)
            play = self.new_play(numbers)
            for _ in range(numbers.randint(5, 60)):
                play.step(numbers.randrange(len(play.tasks)))
            awake = [thread for thread in range(len(play.tasks)) if numbers.random() < 0.6]
            for _ in range(40 if awake else 0):
                play.step(numbers.choice(awake))
            play.finish(awake)
            play.finish_all()


if __name__ == "__main__":
    unittest.main()
