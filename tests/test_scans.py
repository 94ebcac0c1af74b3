"""Points [46] to [51]: scans."""

import random
import unittest

from espalier.scans import ROUNDS, Scan, rows_between
from espalier.epochs import Store
from espalier.memory import Layout, Memory
from tests.crew import Crew
from tests.plain import answer_and_map, random_call
from tests.scripts import all_cells, is_steady, play_alone, play_among, put
from tests.trees import ONE_LEVEL, THREE_LEVELS, TWO_LEVELS, content, leaf_with, plant

HUGE = 10 ** 20
ENTER = [("read", 0), ("write", 1), ("read", 0)]


class RowsTest(unittest.TestCase):
    LEAVES = [("leaf", None, 4, (1, 3), (10, 30)), ("leaf", 4, None, (4, 7), (40, 70))]

    def test_the_example_of_the_document(self):
        self.assertEqual(rows_between(self.LEAVES, 3, 7), [(3, 30), (4, 40)])

    def test_bounds_anywhere(self):
        rows = [(1, 10), (3, 30), (4, 40), (7, 70)]
        for low in range(-1, 10):
            for high in range(-1, 10):
                self.assertEqual(rows_between(self.LEAVES, low, high),
                                 [row for row in rows if low <= row[0] < high])
        self.assertEqual(rows_between(self.LEAVES, -HUGE, HUGE), rows)

    def test_the_order_is_that_of_the_records(self):
        self.assertEqual(rows_between(self.LEAVES[::-1], 1, 8),
                         [(4, 40), (7, 70), (1, 10), (3, 30)])

    def test_nothing(self):
        self.assertEqual(rows_between([], 1, 8), [])
        self.assertEqual(rows_between([leaf_with(None, None)], 1, 8), [])

    def test_the_list_stays(self):
        leaves = list(self.LEAVES)
        rows = rows_between(leaves, 0, 9)
        rows.append(1)
        self.assertEqual(leaves, self.LEAVES)
        self.assertEqual(len(rows_between(leaves, 0, 9)), 4)

    def test_the_number_of_rounds(self):
        self.assertEqual(ROUNDS, 4)


class ScansCase(unittest.TestCase):
    def begin(self, records=None):
        self.memory = Memory(Layout(2, 8, 60))
        self.layout = self.memory.layout
        self.store = Store(self.layout, 0)
        plant(self.memory, records or {0: leaf_with(None, None)})
        self.base = self.memory.count

    def read(self, *pages):
        """The accesses that read these pages, which show their first addresses."""
        return [("read", cell) for page in pages
                for cell in (self.layout.word(page), self.layout.record(page))]

    def show(self, page, record, cell):
        put(self.memory, cell, record)
        put(self.memory, self.layout.word(page), cell)


class AloneTest(ScansCase):
    def check_scan(self, records, low, high, walks, leaves):
        """A scan that nothing disturbs, with these walks and leaves."""
        self.begin(records)
        before = all_cells(self.memory), self.store.free_cells(), self.store.waiting()
        value, made = play_alone(self.memory, Scan(self.store, low, high))
        accesses = self.read(*[page for walk in walks for page in walk])
        wanted = answer_and_map(content(records), ("scan", low, high))[0]
        self.assertEqual(value, (wanted, self.base + 3 + len(accesses) - 1))
        self.assertEqual(made, ENTER + accesses + self.read(*leaves) + [("write", 1)])
        self.assertEqual(
            (all_cells(self.memory), self.store.free_cells(), self.store.waiting()), before)

    def test_one_level(self):
        for low, high in ((0, 50), (10, 30), (11, 30), (10, 31), (20, 20), (20, 21), (40, 9),
                          (-HUGE, HUGE), (HUGE, -HUGE)):
            self.check_scan(ONE_LEVEL, low, high, [[0]], [0])

    def test_an_empty_tree(self):
        self.check_scan({0: leaf_with(None, None)}, -5, 5, [[0]], [0])

    def test_two_levels(self):
        for low, high, leaves in (
                (0, 10, [1]), (0, 11, [1, 2]), (9, 10, [1]), (10, 11, [2]), (10, 20, [2]),
                (10, 21, [2, 3]), (1, 41, [1, 2, 3]), (-HUGE, HUGE, [1, 2, 3]), (19, 20, [2]),
                (20, 99, [3]), (50, 99, [3]), (5, 5, [1]), (15, 5, [2]), (20, 20, [3]),
                (20, 5, [3]), (9, -9, [1])):
            self.check_scan(TWO_LEVELS, low, high, [[0, page] for page in leaves], leaves)

    def test_three_levels(self):
        ways = {3: [0, 1, 3], 4: [0, 1, 4], 5: [0, 2, 5], 6: [0, 2, 6], 7: [0, 2, 7]}
        for low, high, leaves in (
                (0, 100, [3, 4, 5, 6, 7]), (20, 60, [4, 5]), (19, 61, [3, 4, 5, 6]),
                (79, 80, [6]), (80, 81, [7]), (40, 40, [5]), (90, 5, [7])):
            self.check_scan(THREE_LEVELS, low, high, [ways[page] for page in leaves], leaves)

    def test_each_low_and_high(self):
        for records in (TWO_LEVELS, THREE_LEVELS):
            self.begin(records)
            for low in range(-3, 100, 3):
                for high in range(-3, 100, 4):
                    value, _ = play_alone(self.memory, Scan(self.store, low, high))
                    self.assertEqual(
                        value[0], answer_and_map(content(records), ("scan", low, high))[0])

    def test_asking_twice(self):
        self.begin(TWO_LEVELS)
        machine = Scan(self.store, 5, 25)
        while machine.request()[0] != "end":
            self.assertTrue(is_steady(machine))
            request = machine.request()
            self.assertEqual(request[0], "call")
            machine.accept(play_alone(self.memory, request[1])[0])
        self.assertTrue(is_steady(machine))
        self.assertEqual(machine.request()[1][0], [(5, 50), (10, 100), (12, 120), (19, 190)])


class AmongTest(ScansCase):
    """The tree is changed between the accesses of a scan."""

    # Behind how many accesses of a scan from 0 to 15 over TWO_LEVELS a part begins:
    # two walks to page 1 and to page 2, two looks.
    FIRST, SECOND, LOOKS, END = 3, 7, 11, 15

    def scan(self, moves, low=0, high=15, records=None):
        self.begin(records or TWO_LEVELS)
        value, self.made = play_among(self.memory, Scan(self.store, low, high), moves)
        return value

    def rounds(self):
        """How often page 0 was read for the key low, two walks a round."""
        return [cell for _, _, cell in self.made].count(self.layout.word(0)) // 2

    def change_page_2(self):
        self.show(2, leaf_with(10, 20, 11, 19), 45)

    def change_page_1(self):
        self.show(1, leaf_with(None, 10, 2, 3), 44)

    def test_a_change_before_the_second_walk(self):
        value = self.scan({self.SECOND: self.change_page_2})
        self.assertEqual(value[0], [(1, 10), (5, 50), (11, 110)])
        self.assertEqual(value[1], self.made[self.SECOND + 2][0])
        self.assertEqual(self.rounds(), 1)

    def test_a_change_of_a_leaf_that_was_kept(self):
        # Behind the walk to page 1 until it is looked at again.
        for behind in range(6, 12):
            value = self.scan({behind: self.change_page_1})
            self.assertEqual(value[0], [(2, 20), (3, 30), (10, 100), (12, 120)])
            self.assertEqual(self.rounds(), 2)
            # The looks end at the first one that shows another address.
            self.assertEqual(len(self.made), 11 + 2 + 12 + 1)
            self.assertEqual(value[1], self.made[13 + 6][0])

    def test_a_change_behind_the_second_look_at_the_leaf(self):
        for behind in range(12, 16):
            value = self.scan({behind: self.change_page_1})
            self.assertEqual(value[0], [(1, 10), (5, 50), (10, 100), (12, 120)])
            self.assertEqual((self.rounds(), len(self.made)), (1, 16))
            self.assertEqual(value[1], self.made[9][0])

    def test_a_change_of_the_last_leaf(self):
        for behind in range(10, 14):
            value = self.scan({behind: self.change_page_2})
            self.assertEqual(value[0], [(1, 10), (5, 50), (11, 110)])
            self.assertEqual((self.rounds(), len(self.made)), (2, 3 + 12 + 12 + 1))

    def test_a_change_of_pages_that_were_not_kept(self):
        def change():
            self.show(3, leaf_with(20, None, 21, 22), 46)
            self.show(0, TWO_LEVELS[0], 47)
        for behind in range(1, 16):
            value = self.scan({behind: change})
            self.assertEqual(value[0], [(1, 10), (5, 50), (10, 100), (12, 120)])
            self.assertEqual(self.rounds(), 1)

    def test_the_same_record_at_another_address(self):
        # The address counts, not what is there.
        def change():
            self.show(1, TWO_LEVELS[1], 44)
        value = self.scan({self.SECOND: change})
        self.assertEqual(self.rounds(), 2)
        self.assertEqual(value[0], [(1, 10), (5, 50), (10, 100), (12, 120)])

    def join_1_and_2(self):
        self.show(0, ("inner", 1, None, None, (20,), (1, 3)), 43)
        self.show(1, leaf_with(None, 20, 1, 5, 10), 44)
        self.show(2, ("free", 2), 45)

    def test_the_next_leaf_does_not_begin_at_the_key(self):
        value = self.scan({self.SECOND: self.join_1_and_2})
        self.assertEqual(value[0], [(1, 10), (5, 50), (10, 100)])
        # No look behind the walk that failed; then a round of one walk and one look.
        self.assertEqual(len(self.made), 3 + 8 + 6 + 1)
        cells = [cell for _, _, cell in self.made]
        self.assertEqual(cells[11:17], [5, 43, 6, 44, 6, 44])
        self.assertEqual(value[1], self.made[13][0])

    def test_the_first_leaf_need_not_begin_at_low(self):
        for low in (0, 1, 4, 5, 9, 11, 15, 25):
            value = self.scan({}, low, 100)
            self.assertEqual(
                value[0], answer_and_map(content(TWO_LEVELS), ("scan", low, 100))[0])

    def scan_a_mark(self, behind):
        """Scan page 1 with a mark whose deed is done behind so many accesses."""
        self.begin(TWO_LEVELS)
        put(self.memory, 50, leaf_with(None, 10, 2, 3))
        put(self.memory, 51, 0)
        put(self.memory, self.layout.word(1), (52, 51, self.layout.record(1), 50))

        def decide():
            self.memory.access(1, ("decide", 51, "done"))
        return play_among(self.memory, Scan(self.store, 0, 9), {behind: decide})

    def test_a_mark_whose_deed_is_done_between_the_two_looks(self):
        value, made = self.scan_a_mark(8)
        self.assertEqual(value[0], [(2, 20), (3, 30)])
        self.assertEqual(value[1], made[3 + 5 + 3 + 2][0])
        self.assertGreater(value[1], self.memory.peek(51)[1])

    def test_the_witness_is_the_decision_of_another_thread(self):
        value, made = self.scan_a_mark(6)
        self.assertEqual(value, ([(2, 20), (3, 30)], self.memory.peek(51)[1]))

    def fail_rounds(self, many):
        """Change page 1 in each of so many rounds, behind its walk."""
        self.begin(TWO_LEVELS)
        moves = {}
        for at in range(many):
            def change(at=at):
                self.show(1, leaf_with(None, 10, at), 40 + at)
            # A round that fails at the first look makes 10 accesses.
            moves[7 + 10 * at] = change
        value, self.made = play_among(self.memory, Scan(self.store, 0, 15), moves)
        return value

    def test_rounds_that_fail(self):
        for many in range(4):
            value = self.fail_rounds(many)
            first = [(many - 1, 10 * many - 10)] if many else [(1, 10), (5, 50)]
            self.assertEqual(value[0], first + [(10, 100), (12, 120)])
            self.assertEqual(len(self.made), 3 + 10 * many + 12 + 1)
            self.assertEqual(value[1], self.made[3 + 10 * many + 6][0])

    def test_four_rounds_that_fail(self):
        for many in (4, 5, 6):
            self.assertEqual(self.fail_rounds(many), ("busy", None))
            self.assertEqual(len(self.made), 3 + 40 + 1)
            self.assertEqual(self.made[-1][1:], ("write", 1))
            self.assertEqual(self.memory.peek(1), None)

    def test_failed_rounds_of_both_kinds_count(self):
        self.begin(TWO_LEVELS)
        whole = [self.memory.peek(self.layout.word(page)) for page in range(3)]

        def part():
            for page in range(3):
                put(self.memory, self.layout.word(page), whole[page])
        # 8 accesses if the second walk fails; the next round must be of two walks again.
        moves = {7: self.join_1_and_2, 11: part, 11 + 4: self.join_1_and_2, 19: part,
                 19 + 4: self.change_page_1, 29 + 4: self.join_1_and_2}
        value, self.made = play_among(self.memory, Scan(self.store, 0, 15), moves)
        self.assertEqual(value, ("busy", None))
        self.assertEqual(len(self.made), 3 + 8 + 8 + 10 + 8 + 1)


class TogetherTest(unittest.TestCase):
    """Scans among the calls of other threads."""

    def test_each_place_of_a_change(self):
        for change in (("take", 5), ("take", 10), ("put", 15, 1), ("put", 99, 1), ("take", 60)):
            for first in range(0, 40, 2):
                crew = Crew(self, [[("scan", 0, 70)], [change]], 12, 60, THREE_LEVELS)
                crew.steps(0, first)
                crew.end_call(1)
                crew.finish_all()
                crew.check_end()
                self.assertNotIn("busy", [row[2] for row in crew.rows])

    def test_a_scan_that_is_disturbed_again_and_again(self):
        calls = [("put", 5, key) for key in range(8)]
        for many in range(1, 7):
            crew = Crew(self, [[("scan", 0, 20)], calls], 12, 90, TWO_LEVELS)
            for _ in range(many):
                # Enough for the first walk, and too few for its look.
                crew.steps(0, 7 if crew.present[0] is None else 10)
                crew.end_call(1)
            crew.finish_all()
            crew.check_end()
            answer = crew.present[0][2]
            if many < 4:
                self.assertEqual(answer[1], (5, many - 1))
            else:
                self.assertEqual(answer, "busy")

    def test_many_orders(self):
        busy = 0
        for seed in range(100):
            numbers = random.Random(seed)
            threads = numbers.randint(2, 4)
            keys = numbers.choice((10, 40, 100))
            words = ("put", "take", "scan", "add") + ("put",) * numbers.randrange(3)
            calls = [[random_call(numbers, keys, words) for _ in range(10)]
                     for _ in range(threads)]
            calls[0] = [("scan", 0, numbers.choice((keys, 100))) for _ in range(3)]
            crew = Crew(self, calls, 16, 120, numbers.choice((TWO_LEVELS, THREE_LEVELS)))
            burst = numbers.choice((2, 4, 12, 30))
            while not crew.is_idle(0):
                crew.steps(0, numbers.randint(1, 4))
                crew.steps(numbers.randrange(1, threads), numbers.randint(1, burst))
            crew.finish_all()
            crew.check_end()
            for row in crew.rows:
                if row[2] == "busy":
                    busy += 1
                    self.check_disturbed(crew, row)
        self.assertGreater(busy, 5)

    def check_disturbed(self, crew, row):
        """Point [50]: four changes took place within a scan that is busy."""
        within = [other for other in crew.rows if other[3] is not None
                  and row[4] <= other[3] <= row[5] and crew.changed(other)]
        self.assertGreaterEqual(len(within), 4)

    def test_a_stopped_thread_does_not_disturb(self):
        for stop in range(0, 40):
            crew = Crew(self, [[("take", 5)], [("scan", 0, 100)]], 12, 60, THREE_LEVELS)
            crew.steps(0, stop)
            since = crew.memory.count
            crew.finish([1])
            self.assertIsInstance(crew.present[1][2], list)
            self.assertLessEqual(crew.memory.count - since, 80)


if __name__ == "__main__":
    unittest.main()
