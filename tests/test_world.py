"""Points [55] and [56]: the world, pick by pick."""

import copy
import unittest

from espalier.epochs import Store
from espalier.errors import NotValid
from espalier.memory import Layout, Memory
from espalier.world import World

# A put into an empty tree alone: entering, the walk, three writings, the deed, leaving.
PUT = 19
LOOK = 6


class Other:
    """A value of no kind that the document knows."""


class NewWorldTest(unittest.TestCase):
    def test_fields(self):
        for threads in range(1, 5):
            world = World([[] for _ in range(threads)])
            self.assertIsInstance(world.layout, Layout)
            self.assertEqual((world.layout.threads, world.layout.pages, world.layout.records),
                             (threads, 48, 400))
            self.assertIsInstance(world.memory, Memory)
            self.assertIs(world.memory.layout, world.layout)
            self.assertEqual(world.memory.count, 0)
            self.assertEqual([store.thread for store in world.stores], list(range(threads)))
            for store in world.stores:
                self.assertIsInstance(store, Store)
                self.assertEqual(store.free_cells(),
                                 Store(world.layout, store.thread).free_cells())
            self.assertEqual((world.history(), world.shown_map()), ([], []))

    def test_pages_and_records(self):
        world = World([[("put", 1, 1)]], 4, 20)
        self.assertEqual((world.layout.pages, world.layout.records), (4, 20))
        self.assertEqual(World([[]], pages=5).layout.records, 400)
        self.assertEqual(World([[]], records=60).layout.pages, 48)
        self.assertEqual(World([[]], 2, 2).layout.cells(), 9)

    def test_layouts_that_are_not_valid(self):
        for pages, records in ((1, 400), (0, 400), (-2, 400), (49, 400), (48, 47), (4, 3), (4, 0),
                               (True, 400), (4, True), (None, 400), (4, None), ("4", 40),
                               (4, "40"), (4.0, 40)):
            with self.assertRaises(NotValid):
                World([[]], pages, records)

    def test_numbers_of_threads_that_are_not_valid(self):
        for threads in (0, 5, 6, 20):
            with self.assertRaises(NotValid):
                World([[("look", 1)] for _ in range(threads)])

    def test_calls_that_are_not_valid(self):
        for wrong in (("look",), ("look", True), ("look", None), ("look", "5"), ("put", 1),
                      ("put", 1, False), ("get", 1), ["look", 1], None, 5, "look", (), Other(),
                      ("scan", 1), ("change", 1, 2), ("take", 1, 2), ("scan", 1, 2.0)):
            for calls in ([[wrong]], [[("look", 1), wrong]], [[], [wrong]],
                          [[wrong], [("look", 1)]], [[], [], [], [("look", 1), wrong]]):
                with self.assertRaises(NotValid):
                    World(calls)

    def test_other_values_in_the_place_of_lists(self):
        for calls in (None, 1, "look", {}, (), Other(), ([],), [()], [(("look", 1),)], [None],
                      ["look"], [("look", 1)], [[], None], [{}], {0: []}):
            with self.assertRaises(NotValid):
                World(calls)

    def test_the_lists_that_are_passed_stay_and_may_be_changed(self):
        calls = [[("put", 1, 5)], [("look", 1)]]
        kept = copy.deepcopy(calls)
        world = World(calls)
        world.play([0, 1] * 30)
        self.assertEqual(calls, kept)
        world = World(calls)
        calls[0].append(("put", 2, 6))
        calls.append([("look", 1)])
        world.play([0, 1] * 30)
        self.assertEqual(world.shown_map(), [(1, 5)])
        self.assertTrue(world.idle(0))


class PickTest(unittest.TestCase):
    def test_playing(self):
        world = World([[("put", 5, 1)], [("look", 5)]])
        self.assertEqual(world.play([]), 0)
        self.assertEqual(world.play([0]), 1)
        self.assertEqual(world.play([0] * 4), 4)
        self.assertEqual(world.memory.count, 5)
        self.assertEqual([row[1] for row in world.memory.log()], [0] * 5)
        self.assertEqual(world.play([0, 1, 0, 1, 1]), 5)
        self.assertEqual([row[1] for row in world.memory.log()[5:]], [0, 1, 0, 1, 1])

    def test_the_list_of_picks_stays(self):
        world = World([[("put", 5, 1)]])
        picks = [0, 7, 0]
        self.assertEqual(world.play(picks), 2)
        self.assertEqual(picks, [0, 7, 0])

    def test_picks_that_change_nothing(self):
        world = World([[("look", 5)], []])
        for picks in ([1], [2], [-1], [-2], [4], [10 ** 20], [1, 2, -1] * 5):
            self.assertEqual(world.play(picks), 0)
        self.assertEqual((world.memory.count, world.history()), (0, []))
        self.assertEqual(world.play([1, 0, 5, 0, -1]), 2)
        self.assertEqual(world.play([0] * 50), LOOK - 2)
        self.assertEqual(world.play([0] * 50), 0)

    def test_picks_below_0_and_true_are_no_threads(self):
        world = World([[("look", 5)], [("look", 6)]])
        self.assertEqual(world.play([-1, -2, True, False, None, "0"]), 0)
        self.assertEqual([world.run(thread, 9) for thread in (-1, -2, True)], [False] * 3)
        self.assertEqual([world.idle(thread) for thread in (-1, 2, True)], [True] * 3)
        self.assertEqual(world.history(), [])

    def test_one_call_after_the_other(self):
        world = World([[("look", 5), ("look", 6), ("look", 7)]])
        self.assertEqual(world.play([0] * LOOK), LOOK)
        self.assertEqual(len(world.history()), 1)
        self.assertEqual(world.play([0]), 1)
        self.assertEqual([row[5:] for row in world.history()], [(1, LOOK), (LOOK + 1, None)])
        self.assertEqual(world.play([0] * 100), 2 * LOOK - 1)
        self.assertEqual([row[5:] for row in world.history()], [
            (1, LOOK), (LOOK + 1, 2 * LOOK), (2 * LOOK + 1, 3 * LOOK)])

    def test_idle(self):
        world = World([[("look", 5), ("look", 5)], [], [("look", 5)]])
        self.assertEqual([world.idle(thread) for thread in range(3)], [False, True, False])
        world.play([0] * (2 * LOOK - 1) + [2])
        self.assertEqual([world.idle(thread) for thread in range(3)], [False, True, False])
        world.play([0])
        self.assertEqual([world.idle(thread) for thread in range(3)], [True, True, False])
        world.play([2] * LOOK)
        self.assertIs(world.idle(2), True)


class RunTest(unittest.TestCase):
    def test_a_whole_call(self):
        world = World([[("look", 5), ("put", 5, 1), ("look", 5)]])
        for made in (LOOK, LOOK + PUT):
            self.assertIs(world.run(0, 2000), True)
            self.assertEqual(world.memory.count, made)
        self.assertEqual([row[3] for row in world.history()], [None, None])
        self.assertTrue(world.run(0, 2000))
        self.assertFalse(world.run(0, 2000))
        self.assertEqual([row[3] for row in world.history()], [None, None, 1])

    def test_the_most(self):
        for most in range(0, LOOK):
            world = World([[("look", 5), ("look", 6)]])
            self.assertIs(world.run(0, most), False)
            self.assertEqual(world.memory.count, most)
            self.assertIs(world.run(0, LOOK - most), True)
            self.assertEqual(world.memory.count, LOOK)
        world = World([[("look", 5), ("look", 6)]])
        self.assertIs(world.run(0, LOOK), True)
        self.assertIs(world.run(0, LOOK - 1), False)
        self.assertIs(world.run(0, 1), True)
        self.assertIs(world.run(0, -1), False)

    def test_a_call_that_was_begun(self):
        world = World([[("look", 5), ("look", 6)], [("look", 7)]])
        world.play([0, 0, 1, 0, 1])
        self.assertTrue(world.run(0, 2000))
        self.assertEqual(world.memory.count, LOOK + 2)
        self.assertEqual([row[3:] for row in world.history()], [
            (None, 6, 1, 8), (None, None, 3, None)])

    def test_threads_that_have_ended_or_do_not_exist(self):
        world = World([[("look", 5)], []])
        for thread in (1, 2, 4, -1, 10 ** 20):
            self.assertIs(world.run(thread, 50), False)
        self.assertEqual(world.memory.count, 0)


class HistoryTest(unittest.TestCase):
    def test_rows_are_ordered_by_thread_and_index(self):
        world = World([[("look", 1), ("look", 2)], [("look", 3)], [("look", 4), ("look", 5)]])
        for thread in (2, 0, 2, 1, 0):
            world.run(thread, 2000)
        self.assertEqual([row[:3] for row in world.history()], [
            (0, 0, ("look", 1)), (0, 1, ("look", 2)), (1, 0, ("look", 3)),
            (2, 0, ("look", 4)), (2, 1, ("look", 5))])
        self.assertEqual([row[5:] for row in world.history()], [
            (7, 12), (25, 30), (19, 24), (1, 6), (13, 18)])

    def test_calls_of_each_kind(self):
        calls = [("put", 5, 1), ("add", 6, 2), ("add", 5, 3), ("change", 6, 2, 4),
                 ("change", 6, 2, 5), ("look", 6), ("scan", 0, 9), ("take", 5), ("take", 5),
                 ("put", 6, 7), ("look", 5)]
        world = World([calls])
        while world.run(0, 2000):
            self.assertLessEqual(len(world.shown_map()), 2)
        answers = [row[3] for row in world.history()]
        self.assertEqual(answers, [
            None, True, False, True, False, 4, [(5, 1), (6, 4)], 1, None, 4, None])
        self.assertEqual([isinstance(answer, bool) for answer in answers].count(True), 4)
        self.assertEqual([row[2] for row in world.history()], calls)
        self.assertEqual(world.shown_map(), [(6, 7)])

    def test_a_full_call_and_its_row(self):
        world = World([[("put", key, 1) for key in range(6)]], 2, 40)
        while world.run(0, 2000):
            self.assertLessEqual(len(world.shown_map()), 4)
        self.assertEqual([row[3] for row in world.history()], [None] * 4 + ["full"] * 2)
        self.assertEqual([row[4] for row in world.history()[4:]], [None, None])
        self.assertEqual(world.shown_map(), [(key, 1) for key in range(4)])

    def test_the_witness_of_a_call_that_has_not_ended(self):
        world = World([[("put", 5, 1)]])
        seen = []
        while not world.idle(0):
            world.play([0])
            seen.append(world.history()[0][3:])
        # The access 13 decides the deed.
        self.assertEqual(seen, [(None, None, 1, None)] * 12 + [(None, 13, 1, None)] * 6
                         + [(None, 13, 1, 19)])

    def test_a_call_whose_deed_another_thread_did(self):
        world = World([[("put", 5, 1)], [("put", 6, 2)]])
        # The mark of thread 0 is in the word of page 0.
        world.play([0] * 12)
        self.assertEqual(world.shown_map(), [])
        self.assertIsNone(world.history()[0][4])
        while world.shown_map() == []:
            world.play([1])
        self.assertEqual(world.history()[0][3:], (None, world.memory.count, 1, None))
        self.assertEqual(world.shown_map(), [(5, 1)])
        number = world.memory.count
        world.run(1, 2000)
        self.assertEqual(world.history()[0][3:], (None, number, 1, None))
        self.assertTrue(world.run(0, 2000))
        self.assertEqual(world.history()[0][3:], (None, number, 1, world.memory.count))

    def test_a_call_whose_deed_failed(self):
        world = World([[("put", 5, 1)], [("put", 6, 2)]])
        world.play([0] * 8)
        world.run(1, 2000)
        seen = []
        while not world.idle(0):
            world.play([0])
            seen.append(world.history()[0][4])
        self.assertEqual(sorted(set(seen), key=repr), [world.history()[0][4], None])
        self.assertEqual(world.memory.log()[seen[-1] - 1][1:3], (0, "decide"))
        self.assertEqual(world.shown_map(), [(5, 1), (6, 2)])

    def test_looks_and_scans_that_have_not_ended(self):
        for call in (("look", 5), ("scan", 0, 9), ("put", 5, 1)):
            world = World([[("put", 5, 1), call]])
            world.run(0, 2000)
            while not world.idle(0):
                world.play([0])
                if not world.idle(0):
                    self.assertEqual(world.history()[1][3:5], (None, None))
            self.assertIsNotNone(world.history()[1][4])

    def test_what_was_returned_is_not_changed_later(self):
        world = World([[("put", 5, 1), ("scan", 0, 9), ("put", 6, 1)]])
        world.run(0, 2000)
        world.run(0, 2000)
        rows, items = world.history(), world.shown_map()
        kept = copy.deepcopy((rows, items))
        world.run(0, 2000)
        self.assertEqual((rows, items), kept)
        rows[1][3].append((7, 7))
        rows.pop()
        items.pop()
        self.assertEqual(world.history()[1][3], [(5, 1)])
        self.assertEqual(len(world.history()), 3)
        self.assertEqual(world.shown_map(), [(5, 1), (6, 1)])

    def test_asking_makes_no_access(self):
        world = World([[("put", 5, 1)]])
        for _ in range(PUT):
            world.play([0])
            before = world.memory.count, world.memory.log()
            world.history()
            world.shown_map()
            world.idle(0)
            self.assertEqual((world.memory.count, world.memory.log()), before)


if __name__ == "__main__":
    unittest.main()
