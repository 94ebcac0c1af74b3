"""Points [1], [24], [25], [40], [44], [49], [50], [57], [58] and [66]: whole worlds."""

import random
import unittest

from espalier.checks import check_tree, lost_cells, shown_records, tree_map, tree_shape
from espalier.histories import changes_between, in_order, is_change, map_at, precedes
from espalier.judge import first_fault
from espalier.memory import is_mark
from espalier.reads import shown_now
from espalier.world import World
from tests.crew import Crew
from tests.plain import answer_and_map, random_call
from tests.trees import content, shown_tree, tree_faults

# More accesses than any call needs alone (point [58]).
ENOUGH = 2000


class WorldCase(unittest.TestCase):
    def check_now(self, world):
        """What holds between any two accesses."""
        records = shown_records(world.memory)
        self.assertEqual(check_tree(records), "")
        self.assertEqual(tree_faults(shown_tree(world.memory)), [])
        rows = world.history()
        self.assertEqual(first_fault(rows), ("", -1))
        shown = tree_map(records)
        self.assertEqual(shown, content(shown_tree(world.memory)))
        self.assertEqual(shown, map_at(rows, world.memory.count))
        self.assertEqual(world.shown_map(), sorted(shown.items()))

    def check_answers(self, world):
        """The answers against a plain map in the order of the witnesses."""
        rows = [row for row in world.history() if row[4] is not None]
        plain = {}
        for row in sorted(rows, key=lambda row: (row[4], not is_change(row))):
            answer, plain = answer_and_map(plain, row[2])
            if row[6] is not None:
                self.assertEqual((row[3], type(row[3])), (answer, type(answer)))
                self.assertTrue(row[5] <= row[4] <= row[6])
        self.assertEqual(plain, dict(world.shown_map()))

    def check_places(self, world):
        """Where every cell and page is when all calls have ended."""
        memory, layout = world.memory, world.layout
        self.assertEqual(lost_cells(memory, world.stores), [])
        words = [memory.peek(layout.word(page)) for page in range(layout.pages)]
        self.assertFalse(any(is_mark(word) for word in words))
        self.assertEqual([memory.peek(cell) for cell in range(1, 5)], [None] * 4)
        cells = [shown_now(memory, page) for page in range(layout.pages)]
        pages = [page for page, _, _ in tree_shape(shown_records(memory))]
        for store in world.stores:
            cells.extend(store.free_cells())
            cells.extend(cell for _, row in store.waiting() for cell in row)
            pages.extend(page for page, _ in store.free_pages())
        self.assertEqual(
            sorted(cells), [layout.record(index) for index in range(layout.records)])
        self.assertEqual(sorted(pages), list(range(layout.pages)))

    def finish(self, world, threads):
        for thread in threads:
            while not world.idle(thread):
                self.assertTrue(world.run(thread, ENOUGH))
                self.check_now(world)

    def finish_all(self, world):
        self.finish(world, range(world.layout.threads))
        self.check_answers(world)
        self.check_places(world)

    def new_calls(self, numbers, threads, many, keys):
        return [[random_call(numbers, keys) for _ in range(many)] for _ in range(threads)]

    def new_world(self, numbers, many=12):
        """A world by numbers of a fixed beginning; some have too few pages or cells."""
        threads = numbers.randint(1, 4)
        calls = self.new_calls(numbers, threads, many, numbers.choice((4, 12, 40)))
        pages = numbers.choice((2, 4, 10, 48))
        return World(calls, pages, pages + numbers.choice((4, 12, 40, 350)))


class OrdersTest(WorldCase):
    def play(self, world, numbers, many, threads=None):
        threads = threads or range(world.layout.threads)
        bursts = numbers.choice(((1,), (1, 1, 2), (1, 3, 9, 25)))
        for _ in range(many):
            thread = numbers.choice(threads)
            world.play([thread] * numbers.choice(bursts))
            self.check_now(world)

    def test_many_orders(self):
        answers = {}
        for seed in range(60):
            numbers = random.Random(seed)
            world = self.new_world(numbers)
            self.play(world, numbers, 80)
            self.finish_all(world)
            for row in world.history():
                word = row[3] if row[3] in ("full", "busy") else row[2][0]
                answers[word] = answers.get(word, 0) + 1
        self.assertGreater(answers["full"], 20)
        for word in ("look", "put", "add", "change", "take", "scan"):
            self.assertGreater(answers[word], 50)

    def test_pick_by_pick(self):
        for seed in range(25):
            numbers = random.Random(1000 + seed)
            world = self.new_world(numbers, 5)
            alive = list(range(world.layout.threads))
            while alive:
                thread = numbers.choice(alive)
                self.assertEqual(world.play([thread]), 1)
                self.check_now(world)
                alive = [each for each in alive if not world.idle(each)]
            self.check_answers(world)
            self.check_places(world)

    def test_by_runs(self):
        for seed in range(40):
            numbers = random.Random(2000 + seed)
            world = self.new_world(numbers)
            for _ in range(150):
                before = world.memory.count
                thread = numbers.randrange(world.layout.threads)
                most = numbers.choice((1, 2, 5, 12, 30))
                ended = world.run(thread, most)
                made = world.memory.count - before
                self.assertLessEqual(made, most)
                if not ended:
                    self.assertEqual(made, 0 if world.idle(thread) else most)
                self.check_now(world)
            self.finish_all(world)

    def test_the_same_picks_give_the_same(self):
        # The machines played by themselves, without a world, as the tests play them.
        for seed in range(25):
            numbers = random.Random(3000 + seed)
            calls = self.new_calls(numbers, 3, 6, 12)
            world, crew = World(calls, 10, 60), Crew(self, calls, 10, 60)
            for _ in range(300):
                thread = numbers.randrange(3)
                self.assertEqual(world.play([thread]), int(crew.step(thread)))
            self.assertEqual(world.memory.log(), crew.memory.log())
            witnesses = {row[0]: witness for witness, _, row in crew.unfinished()}
            seen = [0, 0, 0]
            wanted = []
            for thread, call, answer, witness, first, last in crew.rows:
                if last is None:
                    witness = witnesses.get(thread)
                wanted.append((thread, seen[thread], call, answer, witness, first, last))
                seen[thread] += 1
            self.assertEqual(world.history(), sorted(wanted, key=lambda row: row[:2]))
            self.assertEqual(world.shown_map(), sorted(crew.maps[-1].items()))

    def test_trees_of_several_levels(self):
        for seed in range(6):
            numbers = random.Random(4000 + seed)
            calls = self.new_calls(numbers, 3, 20, 60)
            # Each thread has pages for a third of the tree.
            for thread in range(3):
                keys = range(20 * thread, 20 * thread + 20)
                calls[thread] = [("put", key, 7) for key in keys] + calls[thread]
            world = World(calls)
            for thread in range(3):
                for _ in range(20):
                    world.run(thread, ENOUGH)
            self.assertEqual(world.shown_map(), [(key, 7) for key in range(60)])
            self.assertGreaterEqual(tree_shape(shown_records(world.memory))[0][1], 2)
            self.play(world, numbers, 150)
            self.finish_all(world)


class StopsTest(WorldCase):
    """Threads that stop for ever in the middle of a call."""

    def test_some_stop_and_the_others_go_on(self):
        for seed in range(50):
            numbers = random.Random(5000 + seed)
            world = self.new_world(numbers)
            threads = range(world.layout.threads)
            for _ in range(numbers.randint(3, 80)):
                world.play([numbers.choice(threads)])
            awake = [thread for thread in threads if numbers.random() < 0.5] or [0]
            self.finish(world, awake)
            self.check_answers(world)
            # Whoever stopped wakes at last, and everything is in its place again.
            self.finish_all(world)

    def test_one_goes_on_alone(self):
        # Point [58]: at each place where the others may have stopped.
        calls = [[("put", key, 1) for key in range(0, 40, 2)] + [("put", 7, 1)],
                 [("take", 8)], [("put", 9, 2)], [("take", 6), ("put", 11, 3), ("look", 12),
                                                  ("scan", 0, 40)]]
        for one in range(0, 50, 4):
            for other in range(0, 50, 7):
                world = World(calls)
                for _ in range(20):
                    world.run(0, ENOUGH)
                world.play([0] * (one + other) + [1] * one + [2] * other)
                self.finish(world, [3])
                answers = [row[3] for row in world.history() if row[0] == 3]
                self.assertNotIn("full", answers)
                self.assertNotIn("busy", answers)
                self.check_answers(world)

    def test_a_stopped_thread_stops_the_epoch(self):
        world = World([[("look", 1)], [("put", 5, key) for key in range(60)] + [("look", 5)]],
                      4, 40)
        world.play([0] * 3)
        self.finish(world, [1])
        answers = [row[3] for row in world.history() if row[0] == 1]
        self.assertEqual(answers, [None] + list(range(5)) + ["full"] * 54 + [5])
        self.finish_all(world)

    def test_a_look_alone(self):
        # At most 2 accesses for each level and at most 9 more, whatever waits.
        for threads in range(1, 5):
            calls = [[("put", key, 1) for key in range(40)] + [("look", 20)]]
            calls.extend([("look", 1)] for _ in range(threads - 1))
            world = World(calls)
            for _ in range(40):
                world.run(0, ENOUGH)
            levels = tree_shape(shown_records(world.memory))[0][1] + 1
            self.assertGreater(levels, 2)
            for thread in range(threads):
                before = world.memory.count
                self.assertTrue(world.run(thread, ENOUGH))
                self.assertLessEqual(world.memory.count - before, 2 * levels + 9)
            self.assertGreaterEqual(world.memory.count - before, 2 * levels + 4)


class BusyTest(WorldCase):
    def disturbed(self, many):
        """Put the key 5 in so many rounds of a scan; return the world and the scan's row."""
        calls = [[("put", key, 0) for key in range(12)] + [("put", 5, at) for at in range(1, 9)],
                 [("scan", 0, 99)]]
        world = World(calls)
        for _ in range(12):
            world.run(0, ENOUGH)
        records = shown_records(world.memory)
        shape = tree_shape(records)
        leaves = [page for page, level, _ in shape if level == 0]
        walks = 2 * (shape[0][1] + 1) * len(leaves)
        # Up to the leaf with the key 5, which is the first that shows another address.
        looks = 2 * (1 + [5 in records[page][3] for page in leaves].index(True))
        world.play([1] * (3 + walks))
        for at in range(many):
            self.assertTrue(world.run(0, ENOUGH))
            world.play([1] * (looks + walks if at < many - 1 else 0))
        self.assertTrue(world.run(1, ENOUGH))
        self.check_now(world)
        return world, world.history()[-1]

    def test_scans_that_are_disturbed(self):
        for many in range(0, 4):
            _, row = self.disturbed(many)
            self.assertEqual(dict(row[3])[5], many)
            self.assertEqual(len(row[3]), 12)

    def test_a_scan_that_answers_busy(self):
        world, row = self.disturbed(4)
        self.assertEqual(row[3:5], ("busy", None))
        self.assertGreaterEqual(changes_between(world.history(), row[5], row[6]), 4)
        self.finish_all(world)

    def test_busy_scans_in_many_orders(self):
        busy = 0
        for seed in range(15):
            numbers = random.Random(6000 + seed)
            calls = [[("scan", 0, 30) for _ in range(4)]]
            calls.append([random_call(numbers, 30, ("put", "take", "add")) for _ in range(80)])
            world = World(calls)
            for _ in range(20):
                world.run(1, ENOUGH)
            while not world.idle(0):
                world.play([0] * numbers.randint(1, 12))
                world.play([1] * numbers.randint(1, 40))
                self.check_now(world)
            rows = world.history()
            for row in rows:
                if row[3] == "busy":
                    busy += 1
                    self.assertGreaterEqual(changes_between(rows, row[5], row[6]), 4)
            self.finish_all(world)
        self.assertGreater(busy, 5)


class MomentsTest(WorldCase):
    """Points [49], [57] and [66]: each call took place at one moment."""

    def test_each_moment_of_a_world(self):
        for seed in range(12):
            numbers = random.Random(7000 + seed)
            world = World(self.new_calls(numbers, 3, 8, 10), 12, 80)
            maps = [dict(world.shown_map())]
            while not all(world.idle(thread) for thread in range(3)):
                world.play([numbers.randrange(3)])
                while len(maps) <= world.memory.count:
                    maps.append(dict(world.shown_map()))
            rows = world.history()
            for number, plain in enumerate(maps):
                self.assertEqual(map_at(rows, number), plain)
            for row in rows:
                if row[4] is not None:
                    before = maps[row[4] - 1] if is_change(row) else maps[row[4]]
                    self.assertEqual(answer_and_map(before, row[2]), (row[3], maps[row[4]]))

    def test_the_order_keeps_what_ended_before(self):
        for seed in range(12):
            numbers = random.Random(8000 + seed)
            world = self.new_world(numbers, 6)
            threads = range(world.layout.threads)
            for _ in range(120):
                world.play([numbers.choice(threads)] * numbers.choice((1, 4, 20)))
            rows = world.history()
            order = in_order(rows)
            for place, index in enumerate(order):
                for later in order[place + 1:]:
                    self.assertFalse(precedes(rows, later, index))


if __name__ == "__main__":
    unittest.main()
