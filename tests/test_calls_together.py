"""Points [1], [17], [18], [24], [25] and [42] to [45]: calls of several threads."""

import random
import unittest

from tests.crew import Crew
from tests.plain import random_call
from tests.trees import THREE_LEVELS, TWO_LEVELS, leaf_with, shown_tree

KEY_CALLS = ("look", "put", "add", "change", "take")
# A leaf with four keys between two others.
CROWDED = {0: ("inner", 1, None, None, (10, 20), (1, 2, 3)),
           1: leaf_with(None, 10, 1, 5), 2: leaf_with(10, 20, 11, 12, 13, 14),
           3: leaf_with(20, None, 25, 30, 35, 40)}
THIN = {0: ("inner", 1, None, None, (10, 20), (1, 2, 3)),
        1: leaf_with(None, 10, 1, 5), 2: leaf_with(10, 20, 11, 12),
        3: leaf_with(20, None, 25, 30)}
# Entering, and reading the word and the record of page 0.
ENTER, ROOT = 3, 2


class PairsTest(unittest.TestCase):
    """Two calls: each may be interrupted at each of its accesses."""

    def play_pairs(self, tree, one, other, most=40):
        seen = {}
        for first in range(0, most):
            for second in range(0, most, 3):
                crew = Crew(self, [[one], [other]], 8, 40, tree)
                crew.steps(0, first)
                crew.steps(1, second)
                crew.finish_all()
                crew.check_end()
                answers = tuple(row[2] for row in sorted(crew.rows))
                seen[answers] = seen.get(answers, 0) + 1
        return sorted(seen, key=repr)

    def test_two_puts_of_the_same_key(self):
        self.assertEqual(self.play_pairs(None, ("put", 5, 1), ("put", 5, 2), 20),
                         [(2, None), (None, 1)])

    def test_two_adds_of_the_same_key(self):
        self.assertEqual(self.play_pairs(None, ("add", 5, 1), ("add", 5, 2), 20),
                         [(False, True), (True, False)])

    def test_two_changes_of_the_same_value(self):
        self.assertEqual(
            self.play_pairs(TWO_LEVELS, ("change", 12, 120, 1), ("change", 12, 120, 2), 24),
            [(False, True), (True, False)])

    def test_two_takes_of_the_same_key(self):
        self.assertEqual(self.play_pairs(TWO_LEVELS, ("take", 12), ("take", 12), 24),
                         [(120, None), (None, 120)])

    def test_both_cut_the_same_leaf(self):
        self.play_pairs(CROWDED, ("put", 15, 1), ("put", 16, 2))

    def test_both_need_the_same_sibling(self):
        self.play_pairs(THIN, ("take", 1), ("take", 30))

    def test_one_cuts_what_the_other_joins(self):
        self.play_pairs(CROWDED, ("put", 15, 1), ("take", 5))
        self.play_pairs(THREE_LEVELS, ("put", 99, 1), ("take", 5))

    def test_a_reader_beside_a_change(self):
        for tree in (None, TWO_LEVELS):
            self.play_pairs(tree, ("put", 12, 7), ("look", 12), 30)
        self.play_pairs(THIN, ("take", 12), ("look", 11), 30)
        self.play_pairs(CROWDED, ("put", 15, 7), ("add", 14, 5), 30)

    def test_the_tree_grows_a_level_and_loses_it(self):
        full = {0: leaf_with(None, None, 1, 2, 3, 4)}
        self.play_pairs(full, ("put", 5, 1), ("put", 0, 2))
        low = {0: ("inner", 1, None, None, (4,), (1, 2)),
               1: leaf_with(None, 4, 1, 2), 2: leaf_with(4, None, 4, 5)}
        self.play_pairs(low, ("take", 5), ("take", 1))
        self.play_pairs(low, ("take", 5), ("put", 7, 1))


class StepsTest(unittest.TestCase):
    """What happens to a call when another one comes between."""

    def kinds(self, crew, thread, since=0):
        return [row[2:] for row in crew.memory.log()[since:] if row[1] == thread]

    def test_a_deed_that_fails(self):
        crew = Crew(self, [[("put", 5, 1)], [("put", 6, 2)]], 4, 30)
        # Thread 0 has written everything when thread 1 changes the page.
        crew.steps(0, ENTER + ROOT + 3)
        machine, store = crew.machines[0], crew.stores[0]
        cells = store.free_cells()
        self.assertEqual(machine.status, 15)
        crew.end_call(1)
        # The record, the status, the word, the decision, the status again and the cleaning.
        crew.steps(0, 6)
        self.assertEqual(crew.memory.peek(15)[0], "failed")
        self.assertEqual((machine.done, machine.status), (None, None))
        # Its record cell is free again; its status and its deed wait.
        self.assertEqual(store.free_cells(), [13] + cells)
        self.assertEqual(store.waiting(), [(None, [15, 17])])
        crew.finish_all()
        crew.check_end()
        self.assertEqual(self.kinds(crew, 0)[14:19], [
            ("read", 5), ("read", 14), ("write", 13), ("write", 19), ("write", 21)])
        self.assertEqual(store.waiting(), [(1, [15, 17, 14, 19, 21])])
        self.assertEqual(machine.done, crew.present[0][3])

    def test_new_pages_come_back_if_a_deed_fails(self):
        tree = {0: leaf_with(None, None, 1, 2, 3, 4)}
        crew = Crew(self, [[("put", 5, 1)], [("put", 1, 7)]], 8, 40, tree)
        pages = crew.stores[0].free_pages()
        crew.steps(0, ENTER + ROOT + 5)
        self.assertEqual(crew.stores[0].free_pages(), pages[2:])
        crew.end_call(1)
        while crew.machines[0].status is not None:
            crew.step(0)
        self.assertEqual(crew.stores[0].free_pages(), pages)
        crew.finish_all()
        crew.check_end()
        self.assertEqual(crew.stores[0].free_pages(), pages[2:])

    def test_a_plan_that_is_stale(self):
        calls = [("take", 13), ("take", 12), ("take", 14)] + [
            ("put", key, 10 * key) for key in (15, 16, 18, 19)]
        crew = Crew(self, [[("put", 17, 7)], calls], 8, 80, CROWDED)
        crew.steps(0, ENTER + ROOT)
        crew.finish([1])
        # Page 2 was free meanwhile: it has other bounds than the old record of
        # page 0 says, covers the key all the same, and is full.
        self.assertEqual(shown_tree(crew.memory)[2], leaf_with(15, 20, 15, 16, 18, 19))
        since = crew.memory.count
        crew.steps(0, 3)
        word = crew.memory.layout.word
        kinds = self.kinds(crew, 0, since)
        self.assertEqual([kinds[0], kinds[2]], [("read", word(2)), ("read", word(0))])
        crew.finish_all()
        crew.check_end()

    def test_a_sibling_that_does_not_fit_any_more(self):
        # The path is read; then the sibling is cut before it is looked at.
        tree = dict(THIN)
        tree[1] = leaf_with(None, 10, 1, 5, 6, 7)
        crew = Crew(self, [[("take", 12)], [("put", 2, 1)]], 8, 60, tree)
        crew.steps(0, ENTER + ROOT + 2)
        crew.end_call(1)
        since = crew.memory.count
        # The look at page 1 behind the cut: the plan is stale, and the walk begins again.
        crew.steps(0, 3)
        word = crew.memory.layout.word
        kinds = self.kinds(crew, 0, since)
        self.assertEqual(kinds[0], ("read", word(1)))
        self.assertEqual(kinds[2], ("read", word(0)))
        self.assertIsNone(crew.machines[0].status)
        crew.finish_all()
        crew.check_end()

    def test_another_thread_does_the_deed(self):
        crew = Crew(self, [[("put", 5, 1)], [("put", 6, 2)]], 4, 30)
        # The record, the status, the word and the swap: the mark is in the word.
        crew.steps(0, ENTER + ROOT + 3 + 4)
        self.assertEqual(crew.memory.peek(5), (17, 15, 9, 13))
        self.assertEqual(crew.maps[-1], {})
        crew.finish([1])
        # The change of thread 0 has taken place, though it did not go on.
        machine = crew.machines[0]
        self.assertEqual((machine.done, machine.status), (None, 15))
        self.assertEqual(crew.memory.peek(15)[0], "done")
        self.assertEqual(crew.maps[-1], {5: 1, 6: 2})
        number = crew.memory.peek(15)[1]
        self.assertEqual(crew.map_behind(number), {5: 1})
        self.assertEqual(crew.map_behind(number - 1), {})
        crew.finish_all()
        self.assertEqual(crew.present[0][2:4], [None, number])
        self.assertEqual(machine.done, number)
        crew.check_end()

    def test_a_repetition_needs_the_change_of_another_call(self):
        # Point [45]: alone, each call decides one deed at most and walks once.
        for seed in range(20):
            numbers = random.Random(seed)
            crew = Crew(self, [[random_call(numbers, 30, KEY_CALLS) for _ in range(40)]], 20, 100)
            while not crew.is_idle(0):
                since = crew.memory.count
                crew.end_call(0)
                kinds = [kind for kind, _ in self.kinds(crew, 0, since)]
                self.assertLessEqual(kinds.count("decide"), 1)
                self.assertEqual(kinds.count("decide"), crew.changed(crew.rows[-1]))
            crew.check_end()


class ManyOrdersTest(unittest.TestCase):
    """Orders by numbers of a fixed beginning."""

    def new_crew(self, numbers, words=KEY_CALLS):
        threads = numbers.randint(2, 4)
        keys = numbers.choice((3, 8, 30))
        calls = [[random_call(numbers, keys, words) for _ in range(numbers.choice((3, 8)))]
                 for _ in range(threads)]
        pages = numbers.choice((2, 5, 12))
        return Crew(self, calls, pages, pages + numbers.choice((8, 20, 60)))

    def play(self, crew, numbers, many, threads=None):
        for _ in range(many):
            thread = numbers.choice(threads or range(len(crew.calls)))
            crew.steps(thread, numbers.choice((1, 1, 1, 2, 4, 10)))

    def test_all_threads_go_on(self):
        answers = {}
        for seed in range(120):
            numbers = random.Random(seed)
            crew = self.new_crew(numbers)
            self.play(crew, numbers, numbers.randint(20, 200))
            crew.finish_all()
            crew.check_end()
            for row in crew.rows:
                kind = row[2] if row[2] == "full" else "other"
                answers[kind] = answers.get(kind, 0) + 1
        self.assertGreater(answers["full"], 20)
        self.assertGreater(answers["other"], 1000)

    def test_threads_stop_in_the_middle_and_wake(self):
        for seed in range(120):
            numbers = random.Random(1000 + seed)
            crew = self.new_crew(numbers)
            self.play(crew, numbers, numbers.randint(5, 60))
            threads = range(len(crew.calls))
            awake = [thread for thread in threads if numbers.random() < 0.6] or [0]
            self.play(crew, numbers, 40, awake)
            crew.finish(awake)
            crew.check_order_so_far()
            crew.finish_all()
            crew.check_end()

    def test_big_trees(self):
        for seed in range(8):
            numbers = random.Random(2000 + seed)
            calls = [[random_call(numbers, 100, KEY_CALLS) for _ in range(15)] for _ in range(3)]
            crew = Crew(self, calls, 24, 90, THREE_LEVELS)
            self.play(crew, numbers, 400)
            crew.finish_all()
            crew.check_end()

    def test_a_stopped_thread_delays_nobody(self):
        # Thread 0 stops behind each number of accesses; thread 1 goes on alone.
        for stop in range(45):
            crew = Crew(self, [[("take", 5)], [("take", 30), ("put", 7, 1), ("look", 5)]],
                        10, 80, THREE_LEVELS)
            crew.steps(0, stop)
            crew.finish([1])
            self.assertNotIn("full", [row[2] for row in crew.rows])
            crew.check_order_so_far()

    def test_a_stopped_thread_stops_the_epoch(self):
        # Point [25]: thread 1 goes on until it has too few cells; then it is full.
        calls = [[("look", 1)], [("put", 5, key) for key in range(30)] + [("look", 5)]]
        crew = Crew(self, calls, 4, 40)
        crew.steps(0, 4)
        crew.finish([1])
        answers = [row[2] for row in crew.rows if row[0] == 1]
        # 18 cells of its own, 3 for each put.
        self.assertEqual(answers, [None] + list(range(5)) + ["full"] * 24 + [5])
        self.assertLessEqual(crew.memory.peek(0), 1)


class CellsTest(unittest.TestCase):
    """Point [24]: no cell is written anew while a thread in a call knows it."""

    def learn(self, crew, thread, known):
        """Note what the last access, a reading, told the thread."""
        _, _, _, cell = crew.memory.log()[-1]
        value = crew.memory.peek(cell)
        if 5 <= cell < 5 + crew.memory.layout.pages:
            # The new address of a mark is shown only if the deed is done.
            known.update(value[:3] if isinstance(value, tuple) else (value,))
        elif isinstance(value, tuple) and value[0] == "deed":
            known.add(value[1])
            known.update(old for _, old, _ in value[2])

    def test_many_orders(self):
        written = 0
        for seed in range(60):
            numbers = random.Random(4000 + seed)
            crew = ManyOrdersTest.new_crew(self, numbers)
            known = [set() for _ in crew.calls]
            weights = [numbers.choice((1, 5, 20)) for _ in crew.calls]
            while True:
                threads = [at for at in range(len(crew.calls)) if not crew.is_idle(at)]
                if not threads:
                    break
                thread = numbers.choices(threads, [weights[at] for at in threads])[0]
                crew.step(thread)
                _, _, kind, cell = crew.memory.log()[-1]
                if kind == "read":
                    self.learn(crew, thread, known[thread])
                elif kind == "write" and cell == 1 + thread and crew.memory.peek(cell) is None:
                    known[thread] = set()
                elif kind == "write" and crew.memory.layout.is_record(cell):
                    written += 1
                    others = [row for at, row in enumerate(known) if at != thread]
                    self.assertFalse(any(cell in row for row in others))
            crew.check_end()
        self.assertGreater(written, 500)


if __name__ == "__main__":
    unittest.main()
