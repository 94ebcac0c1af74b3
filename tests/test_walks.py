"""Points [30] to [34]: walks and looks."""

import unittest

from espalier.machines import Stack
from espalier.memory import Layout, Memory
from espalier.walks import Look, Walk, leaf_step
from tests.scripts import all_cells, is_steady, pass_time, play_alone, play_among, put
from tests.trees import (
    ONE_LEVEL, THREE_LEVELS, TWO_LEVELS, leaf_with, plant, tree_faults)

HUGE = 10 ** 20
# Cells that no page uses at first.
SPARE = 40
DEED, STATUS, NEW = 60, 61, 62


class WalksCase(unittest.TestCase):
    def begin(self, records, pages=8):
        self.memory = Memory(Layout(2, pages, 60))
        self.layout = self.memory.layout
        plant(self.memory, records)
        self.base = self.memory.count

    def walk(self, key):
        """Walk alone; return the path, the accesses and the walk."""
        machine = Walk(self.layout, key)
        path, made = play_alone(self.memory, machine)
        return path, made, machine

    def word(self, page):
        return self.layout.word(page)

    def own_cell(self, page):
        return self.layout.record(page)

    def step(self, page, record, number):
        """The step of a page that shows its first address."""
        return (page, self.own_cell(page), record, self.base + number)

    def show(self, page, record, cell=SPARE):
        """Change a page: its word holds another address."""
        put(self.memory, cell, record)
        put(self.memory, self.word(page), cell)

    def mark(self, page, new, outcome):
        """Give a word the mark of a deed with this status."""
        put(self.memory, NEW, new)
        put(self.memory, STATUS, outcome)
        put(self.memory, self.word(page), (DEED, STATUS, self.own_cell(page), NEW))


class AloneTest(WalksCase):
    def test_the_example_of_the_document(self):
        for key in (0, 7, -7, HUGE):
            memory = Memory(Layout(1, 4, 20))
            path, made = play_alone(memory, Walk(memory.layout, key))
            self.assertEqual(path, [(0, 9, ("leaf", None, None, (), ()), 1)])
            self.assertEqual(made, [("read", 5), ("read", 9)])

    def check_walk(self, records, key, pages):
        """A walk that nothing disturbs, with these pages on its way."""
        self.begin(records)
        before = all_cells(self.memory)
        path, made, machine = self.walk(key)
        self.assertEqual(path, [
            self.step(page, records[page], 2 * at + 1) for at, page in enumerate(pages)])
        self.assertEqual(made, [
            ("read", cell) for page in pages for cell in (self.word(page), self.own_cell(page))])
        self.assertEqual(machine.restarts, 0)
        self.assertEqual(all_cells(self.memory), before)
        self.assertEqual(leaf_step(path), path[-1])

    def test_one_level(self):
        for key in (-HUGE, 9, 10, 15, 30, 31, HUGE):
            self.check_walk(ONE_LEVEL, key, [0])

    def test_two_levels(self):
        for key, page in ((-HUGE, 1), (0, 1), (1, 1), (9, 1), (10, 2), (11, 2), (19, 2),
                          (20, 3), (21, 3), (HUGE, 3)):
            self.check_walk(TWO_LEVELS, key, [0, page])

    def test_three_levels(self):
        for key, pages in ((-HUGE, [0, 1, 3]), (19, [0, 1, 3]), (20, [0, 1, 4]),
                           (39, [0, 1, 4]), (40, [0, 2, 5]), (59, [0, 2, 5]),
                           (60, [0, 2, 6]), (79, [0, 2, 6]), (80, [0, 2, 7]),
                           (HUGE, [0, 2, 7])):
            self.check_walk(THREE_LEVELS, key, pages)

    def test_the_trees_are_exact(self):
        for records in (ONE_LEVEL, TWO_LEVELS, THREE_LEVELS):
            self.assertEqual(tree_faults(records), [])

    def test_a_path_is_a_new_list(self):
        self.begin(TWO_LEVELS)
        path = self.walk(5)[0]
        kept = list(path)
        self.walk(25)
        self.assertEqual(path, kept)

    def test_restarts_is_there_from_the_beginning(self):
        self.begin(ONE_LEVEL)
        self.assertEqual(Walk(self.layout, 5).restarts, 0)

    def test_asking_twice(self):
        self.begin(THREE_LEVELS)
        for machine in (Walk(self.layout, 5), Look(self.layout, 2)):
            self.assertTrue(is_steady(machine))
            play_alone(self.memory, machine)
            self.assertTrue(is_steady(machine))

    def test_leaf_step(self):
        self.assertEqual(leaf_step([1]), 1)
        self.assertEqual(leaf_step([(0, 9, "a", 1), (3, 8, "b", 4)]), (3, 8, "b", 4))


class MarksTest(WalksCase):
    """Words with marks: one access more for each of them."""

    def test_marks_that_show_the_old_address(self):
        for outcome in (0, ("failed", 1), ("failed", 10 ** 6)):
            for page, key, pages in ((0, 12, [0, 2]), (2, 12, [0, 2]), (3, 12, [0, 2])):
                self.begin(TWO_LEVELS)
                self.mark(page, leaf_with(10, 20), outcome)
                self.base = self.memory.count
                path, made, machine = self.walk(key)
                numbers = [1, 4 if page == 0 else 3]
                self.assertEqual(path, [
                    self.step(each, TWO_LEVELS[each], number)
                    for each, number in zip(pages, numbers)])
                self.assertEqual(len(made), 5 if page in pages else 4)
                self.assertEqual(machine.restarts, 0)

    def test_a_mark_whose_deed_is_done(self):
        self.begin(TWO_LEVELS)
        changed = leaf_with(10, 20, 11, 12)
        self.mark(2, changed, ("done", 2))
        self.base = self.memory.count
        path, made, _ = self.walk(12)
        self.assertEqual(path, [self.step(0, TWO_LEVELS[0], 1), (2, NEW, changed, self.base + 3)])
        self.assertEqual(made, [("read", 5), ("read", 13), ("read", 7), ("read", STATUS),
                                ("read", NEW)])

    def test_the_deed_is_decided_between_the_two_readings(self):
        changed = leaf_with(10, 20, 11, 12)
        for word in ("done", "failed"):
            self.begin(TWO_LEVELS)
            self.mark(2, changed, 0)
            base = self.memory.count

            def decide():
                self.memory.access(1, ("decide", STATUS, word))
            path, made = play_among(self.memory, Walk(self.layout, 12), {3: decide})
            wanted = (2, NEW, changed, base + 4)
            if word == "failed":
                wanted = (2, self.own_cell(2), TWO_LEVELS[2], base + 3)
            self.assertEqual(path[1], wanted)
            self.assertEqual(len(made), 5)

    def test_the_deed_is_decided_behind_both_readings(self):
        self.begin(TWO_LEVELS)
        self.mark(2, leaf_with(10, 20, 11, 12), 0)
        base = self.memory.count

        def decide():
            self.memory.access(1, ("decide", STATUS, "done"))
        path, _ = play_among(self.memory, Walk(self.layout, 12), {4: decide})
        self.assertEqual(path[1], (2, self.own_cell(2), TWO_LEVELS[2], base + 3))

    def test_every_word_has_a_mark(self):
        self.begin(THREE_LEVELS)
        for page in (0, 2, 6):
            put(self.memory, self.word(page), (DEED, STATUS, self.own_cell(page), NEW))
        put(self.memory, STATUS, ("failed", 3))
        self.base = self.memory.count
        path, made, _ = self.walk(60)
        self.assertEqual([step[0] for step in path], [0, 2, 6])
        self.assertEqual([step[3] - self.base for step in path], [1, 4, 7])
        self.assertEqual(len(made), 9)

    def test_different_steps_belong_to_different_accesses(self):
        # Both words get the mark of one deed, which is done while page 0 is read.
        self.begin(TWO_LEVELS)
        put(self.memory, NEW, TWO_LEVELS[0])
        put(self.memory, NEW + 1, TWO_LEVELS[2])
        put(self.memory, STATUS, 0)
        put(self.memory, self.word(0), (DEED, STATUS, self.own_cell(0), NEW))
        put(self.memory, self.word(2), (DEED, STATUS, self.own_cell(2), NEW + 1))
        base = self.memory.count

        def decide():
            self.memory.access(1, ("decide", STATUS, "done"))
        path, _ = play_among(self.memory, Walk(self.layout, 12), {1: decide})
        self.assertEqual([step[3] - base for step in path], [2, 5])


class ChangesTest(WalksCase):
    """The tree is changed between the accesses of a walk."""

    def walk_among(self, records, key, moves):
        self.begin(records)
        machine = Walk(self.layout, key)
        path, made = play_among(self.memory, machine, moves)
        self.check_accesses(path)
        return path, made, machine.restarts

    def check_accesses(self, path):
        numbers = [step[3] for step in path]
        self.assertEqual(numbers, sorted(set(numbers)))

    def split_page_2(self):
        """Keys from 15 on go from page 2 to page 4."""
        self.show(0, ("inner", 1, None, None, (10, 15, 20), (1, 2, 4, 3)), 40)
        self.show(2, leaf_with(10, 15, 10, 12), 41)
        self.show(4, leaf_with(15, 20, 16, 19), 42)

    def test_the_child_does_not_cover_the_key_any_more(self):
        path, made, restarts = self.walk_among(TWO_LEVELS, 19, {2: self.split_page_2})
        self.assertEqual([step[:2] for step in path], [(0, 40), (4, 42)])
        self.assertEqual([cell for _, _, cell in made], [5, 13, 7, 41, 5, 40, 9, 42])
        self.assertEqual(restarts, 1)
        self.assertEqual(path[0][3], made[4][0])

    def test_the_child_still_covers_the_key(self):
        path, made, restarts = self.walk_among(TWO_LEVELS, 12, {2: self.split_page_2})
        self.assertEqual(path[0][:3], (0, 13, TWO_LEVELS[0]))
        self.assertEqual(path[1][:3], (2, 41, leaf_with(10, 15, 10, 12)))
        self.assertEqual((len(made), restarts), (4, 0))

    def test_the_bounds_of_the_child_at_the_key(self):
        for low, high, anew in ((12, 20, 0), (13, 20, 1), (10, 12, 1), (10, 13, 0),
                                (None, 20, 0), (12, None, 0), (None, None, 0), (None, 12, 1),
                                (13, None, 1)):
            self.begin(TWO_LEVELS)
            machine = Walk(self.layout, 12)

            def change():
                self.show(2, leaf_with(low, high))

            def undo():
                self.show(2, TWO_LEVELS[2])
            play_among(self.memory, machine, {2: change, 4: undo})
            self.assertEqual(machine.restarts, anew, (low, high))

    def test_the_change_comes_behind_the_word(self):
        # The record in the cell is what counts, and it was read for this address.
        path, made, restarts = self.walk_among(TWO_LEVELS, 19, {3: self.split_page_2})
        self.assertEqual(path[1][:3], (2, 15, TWO_LEVELS[2]))
        self.assertEqual((len(made), restarts), (4, 0))

    def test_the_child_became_free(self):
        def free():
            self.show(0, ("inner", 1, None, None, (10,), (1, 3)), 40)
            self.show(2, ("free", 2), 41)
            self.show(3, leaf_with(10, None, 10, 30), 42)
        path, made, restarts = self.walk_among(TWO_LEVELS, 12, {2: free})
        self.assertEqual([step[0] for step in path], [0, 3])
        self.assertEqual((len(made), restarts), (8, 1))

    def test_the_child_has_another_level(self):
        for record in (("inner", 1, 10, 20, (15,), (5, 6)), ("inner", 2, 10, 20, (15,), (5, 6))):
            self.begin(TWO_LEVELS)
            machine = Walk(self.layout, 12)

            def change():
                self.show(2, record)

            def undo():
                self.show(2, TWO_LEVELS[2])
            path, made = play_among(self.memory, machine, {2: change, 4: undo})
            self.assertEqual(machine.restarts, 1)
            self.assertEqual([step[0] for step in path], [0, 2])
            self.assertEqual(len(made), 8)

    def test_a_leaf_where_an_inner_node_was(self):
        self.begin(THREE_LEVELS)
        machine = Walk(self.layout, 60)

        def change():
            self.show(2, leaf_with(None, None, 60))

        def undo():
            self.show(2, THREE_LEVELS[2])
        path, made = play_among(self.memory, machine, {2: change, 4: undo})
        self.assertEqual(machine.restarts, 1)
        self.assertEqual([step[0] for step in path], [0, 2, 6])

    def test_the_third_level_is_wrong(self):
        # All steps before the new beginning are gone.
        self.begin(THREE_LEVELS)
        machine = Walk(self.layout, 60)

        def change():
            self.show(6, leaf_with(61, 80, 62, 70))

        def undo():
            self.show(6, THREE_LEVELS[6], 45)
        path, made = play_among(self.memory, machine, {4: change, 6: undo})
        self.assertEqual(machine.restarts, 1)
        self.assertEqual([step[:2] for step in path], [(0, 13), (2, 15), (6, 45)])
        self.assertEqual([step[3] for step in path], [made[at][0] for at in (6, 8, 10)])

    def test_several_new_beginnings(self):
        self.begin(TWO_LEVELS)
        machine = Walk(self.layout, 12)

        def change():
            self.show(2, ("free", 2))

        def undo():
            self.show(2, TWO_LEVELS[2], 45)
        moves = {2: change, 20: undo}
        path, made = play_among(self.memory, machine, moves)
        self.assertEqual(machine.restarts, 5)
        self.assertEqual(len(made), 24)
        self.assertEqual([step[:2] for step in path], [(0, 13), (2, 45)])

    def test_the_root_grows_a_level(self):
        # The old root's record leads to pages that are still right.
        def grow():
            self.show(0, ("inner", 2, None, None, (10,), (4, 5)), 40)
            self.show(4, ("inner", 1, None, 10, (), (1,)), 41)
            self.show(5, ("inner", 1, 10, None, (20,), (2, 3)), 42)
        path, _, restarts = self.walk_among(TWO_LEVELS, 12, {1: grow})
        self.assertEqual([step[:2] for step in path], [(0, 13), (2, 15)])
        self.assertEqual(restarts, 0)

    def test_page_0_is_right_whatever_its_record_is_but_free(self):
        for record, restarts in (
                (leaf_with(50, 60), 0), (leaf_with(None, 3, 1), 0), (("free", 0), 1),
                (("free", 7), 1)):
            self.begin(ONE_LEVEL)
            self.show(0, record)
            machine = Walk(self.layout, 12)

            def undo():
                self.show(0, ONE_LEVEL[0], 41)
            path, made = play_among(self.memory, machine, {2: undo})
            self.assertEqual((machine.restarts, len(path)), (restarts, 1))
            self.assertEqual(path[0][1], 41 if restarts else SPARE)
            self.assertEqual(len(made), 2 + 2 * restarts)

    def test_an_inner_page_0_need_not_cover_the_key(self):
        self.begin(TWO_LEVELS)
        self.show(0, ("inner", 1, 10, 30, (20,), (2, 3)))
        path, _, machine = self.walk(12)
        self.assertEqual([step[0] for step in path], [0, 2])
        self.assertEqual(machine.restarts, 0)

    def test_a_level_is_missing(self):
        # Page 0 has the level 2 and its children are leaves, until that is mended.
        self.begin(TWO_LEVELS)
        self.show(0, ("inner", 2) + TWO_LEVELS[0][2:])
        machine = Walk(self.layout, 12)

        def mend():
            self.show(0, TWO_LEVELS[0], 41)
        path, made = play_among(self.memory, machine, {4: mend})
        self.assertEqual((machine.restarts, len(made)), (1, 8))
        self.assertEqual(path[0][1], 41)


class LooksTest(WalksCase):
    def test_records_of_every_kind(self):
        records = dict(THREE_LEVELS)
        records[7] = leaf_with(None, None)
        self.begin(records, 9)
        for page, record in sorted(records.items()) + [(8, ("free", 8))]:
            before = all_cells(self.memory)
            value, made = play_alone(self.memory, Look(self.layout, page))
            number = self.memory.count - 1
            self.assertEqual(value, (page, self.own_cell(page), record, number))
            self.assertEqual(made, [("read", self.word(page)), ("read", self.own_cell(page))])
            self.assertEqual(all_cells(self.memory), before)

    def test_marks(self):
        changed = leaf_with(10, 20, 11)
        for outcome, late in ((0, 0), (("failed", 9), 0), (("done", 2), 0), (("done", 60), 1)):
            self.begin(TWO_LEVELS)
            self.mark(2, changed, outcome)
            pass_time(self.memory, 50)
            value, made = play_alone(self.memory, Look(self.layout, 2))
            wanted = (2, self.own_cell(2), TWO_LEVELS[2], 51)
            if isinstance(outcome, tuple) and outcome[0] == "done":
                wanted = (2, NEW, changed, 60 if late else 51)
            self.assertEqual(value, wanted)
            self.assertEqual([cell for _, cell in made],
                             [self.word(2), STATUS, wanted[1]])

    def test_the_word_is_changed_behind_its_reading(self):
        self.begin(TWO_LEVELS)
        stack = Stack(Look(self.layout, 2))
        stack.step(self.memory, 0)
        number = self.memory.count
        self.show(2, leaf_with(10, 20))
        stack.step(self.memory, 0)
        self.assertTrue(stack.ended())
        self.assertEqual(stack.value(), (2, self.own_cell(2), TWO_LEVELS[2], number))


if __name__ == "__main__":
    unittest.main()
