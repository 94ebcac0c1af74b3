"""Points [52] to [54]: the checker."""

import copy
import unittest

from espalier.calls import machine_of
from espalier.checks import check_tree, lost_cells, shown_records, tree_map, tree_shape
from espalier.epochs import Store
from espalier.errors import Broken
from espalier.memory import Layout, Memory
from tests.scripts import play_alone, put, state_of
from tests.trees import (
    ONE_LEVEL, Shelf, THREE_LEVELS, TWO_LEVELS, content, leaf_with, plant, tree_faults)

EXAMPLE = [("inner", 1, None, None, (5,), (1, 2)), ("leaf", None, 5, (1, 3), (10, 30)),
           ("leaf", 5, None, (5, 6), (50, 60)), ("free", 3)]


class Other:
    """A value of no kind that the document knows."""


# No records, and not free marks.
STRANGE = [None, True, 0, 7, "", "leaf", "free", (), [], {}, ("leaf",), ("free",), ("free", None),
           ("free", True), ("free", 3, 4), ["free", 3], ("inner", 1), ("deed", 1, ()),
           ("done", 3), Other(), Other, 2.5, b"leaf",
           ("leaf", None, None, [1, 2], (1, 2)), ("leaf", None, None, (2, 1), (1, 2)),
           ("leaf", None, None, (1, 2), (1, None)), ("leaf", None, None, (True, 2), (1, 2)),
           ("inner", 0, None, None, (5,), (1, 2)), ("inner", 1, None, None, (5,), (1,)),
           ("inner", 1, None, None, (5,), (1, None)), ("inner", 1, None, None, (5,), [1, 2]),
           ("inner", True, None, None, (5,), (1, 2))]


def rows(tree, many=None):
    """The list of the records of a dict by page; the other pages are free."""
    many = many or max(tree) + 1
    return [tree.get(page, ("free", page)) for page in range(many)]


def bent(tree, page, record):
    found = rows(tree)
    found[page] = record
    return found


class CheckCase(unittest.TestCase):
    def check(self, records, word):
        kept = copy.copy(records)
        self.assertEqual(check_tree(records), word)
        self.assertEqual(records, kept)
        if word != "":
            for function in (tree_map, tree_shape):
                with self.assertRaises(Broken):
                    function(records)


class SoundTest(CheckCase):
    def test_the_examples_of_the_document(self):
        self.check(EXAMPLE, "")
        self.check(EXAMPLE[:2] + [("leaf", 5, None, (5,), (50,)), ("free", 3)], "size")
        self.check(EXAMPLE[:2] + [("leaf", 4, None, (5, 6), (50, 60)), ("free", 3)], "bounds")

    def test_one_two_and_three_levels(self):
        for tree in (ONE_LEVEL, TWO_LEVELS, THREE_LEVELS):
            for many in (None, 9, 48, 300):
                self.check(rows(tree, many), "")
                self.assertEqual(tree_map(rows(tree, many)), content(tree))

    def test_a_root_of_every_size(self):
        for many in range(5):
            self.check([leaf_with(None, None, *range(many))], "")
        for many in range(2, 6):
            tree = {0: ("inner", 1, None, None, tuple(range(10, 10 * many, 10)),
                        tuple(range(1, many + 1)))}
            for at in range(many):
                low, high = 10 * at, 10 * at + 10
                tree[at + 1] = leaf_with(low if at else None, high if at < many - 1 else None,
                                         low, low + 1)
            self.check(rows(tree), "")

    def test_free_marks_of_any_number(self):
        for number in (0, 3, -1, 10 ** 20):
            self.check(EXAMPLE[:3] + [("free", number)], "")

    def test_trees_of_many_sizes(self):
        shelf = Shelf()
        for key in list(range(0, 120, 3)) + list(range(1, 120, 3)):
            shelf.do(("put", key, key))
            self.check(rows(shelf.records()), "")
        for key in range(0, 120, 2):
            shelf.do(("take", key))
            self.check(rows(shelf.records()), "")
            self.assertEqual(tree_map(rows(shelf.records())), content(shelf.records()))


class FaultsTest(CheckCase):
    def test_no_such_page(self):
        self.check([], "record")
        for pages in ((1, 3), (3, 2), (1, 99), (1, -1), (-2, 2), (1, 10 ** 20)):
            self.check([("inner", 1, None, None, (5,), pages)] + EXAMPLE[1:3], "record")

    def test_free_marks_within_the_tree(self):
        self.check([("free", 0)], "record")
        self.check(bent(ONE_LEVEL, 0, ("free", 7)), "record")
        for tree in (TWO_LEVELS, THREE_LEVELS):
            for page in range(len(tree)):
                self.check(bent(tree, page, ("free", page)), "record")

    def test_values_that_are_no_records(self):
        for value in STRANGE:
            for tree in (ONE_LEVEL, TWO_LEVELS, THREE_LEVELS):
                for page in range(len(tree)):
                    self.check(bent(tree, page, value), "record")

    def test_bounds(self):
        for record in (leaf_with(0, None, 1, 2), leaf_with(None, 9, 1, 2), leaf_with(0, 9, 1, 2)):
            self.check([record], "bounds")
        for record in (leaf_with(9, 20, 12, 13), leaf_with(11, 20, 12, 13),
                       leaf_with(10, 19, 12, 13), leaf_with(10, 21, 12, 13),
                       leaf_with(None, 20, 12, 13), leaf_with(10, None, 12, 13),
                       leaf_with(None, None, 12, 13)):
            self.check(bent(TWO_LEVELS, 2, record), "bounds")
        for record in (("inner", 2, 0, None, (40,), (1, 2)),
                       ("inner", 2, None, 99, (40,), (1, 2)),
                       ("inner", 2, None, None, (41,), (1, 2))):
            self.check(bent(THREE_LEVELS, 0, record), "bounds")
        self.check(bent(THREE_LEVELS, 1, ("inner", 1, None, 40, (21,), (3, 4))), "bounds")
        self.check(bent(THREE_LEVELS, 2, ("inner", 1, 40, 99, (60, 80), (5, 6, 7))), "bounds")

    def test_level(self):
        self.check(bent(TWO_LEVELS, 0, ("inner", 2, None, None, (10, 20), (1, 2, 3))), "level")
        self.check(bent(TWO_LEVELS, 2, ("inner", 1, 10, 20, (15,), (4, 5))), "level")
        for level in (2, 3, 10 ** 20):
            self.check(bent(THREE_LEVELS, 2, ("inner", level, 40, None, (60, 80), (5, 6, 7))),
                       "level")
        self.check(bent(THREE_LEVELS, 1, leaf_with(None, 40, 5, 6)), "level")
        self.check(bent(THREE_LEVELS, 0, ("inner", 3, None, None, (40,), (1, 2))), "level")

    def test_size(self):
        self.check([leaf_with(None, None, 1, 2, 3, 4, 5)], "size")
        for keys in ((), (12,), (11, 12, 13, 14, 15)):
            self.check(bent(TWO_LEVELS, 2, leaf_with(10, 20, *keys)), "size")
        self.check([("inner", 1, None, None, (), (1,)), leaf_with(None, None, 1, 2)], "size")
        six = [("inner", 1, None, None, (10, 20, 30, 40, 50), (1, 2, 3, 4, 5, 6))]
        six.append(leaf_with(None, 10, 1, 2))
        six.extend(leaf_with(low, low + 10, low, low + 1) for low in range(10, 50, 10))
        six.append(leaf_with(50, None, 50, 51))
        self.check(six, "size")
        self.check(bent(THREE_LEVELS, 1, ("inner", 1, None, 40, (), (3,))), "size")

    def test_a_page_at_two_places(self):
        # The other place has other bounds or another level, which is found first.
        self.check([("inner", 1, None, None, (5,), (1, 1))] + EXAMPLE[1:], "bounds")
        self.check([("inner", 1, None, None, (5,), (2, 2))] + EXAMPLE[1:], "bounds")
        self.check([("inner", 1, None, None, (5,), (1, 0))] + EXAMPLE[1:], "bounds")
        self.check(bent(THREE_LEVELS, 2, ("inner", 1, 40, None, (60, 80), (5, 6, 6))), "bounds")
        self.check(bent(THREE_LEVELS, 2, ("inner", 1, 40, None, (60, 80), (5, 6, 2))), "bounds")
        self.check(bent(THREE_LEVELS, 1, ("inner", 1, None, 40, (20,), (3, 2))), "bounds")
        # One child with the bounds of its parent: the size comes before it.
        self.check([("inner", 1, None, None, (), (0,))], "size")

    def test_lost(self):
        for tree in (ONE_LEVEL, TWO_LEVELS, THREE_LEVELS):
            for value in STRANGE + [leaf_with(None, None, 1, 2), leaf_with(1, 2),
                                    ("inner", 1, None, None, (5,), (1, 2))]:
                self.check(rows(tree) + [value], "lost")
                self.check(rows(tree) + [("free", 1), value, ("free", 2)], "lost")

    def test_a_level_that_leads_far_down(self):
        # Each page leads on to the next one; only the last one has a fault.
        many = 3000
        records = [("inner", many - at, None, None if at == 0 else 2 * many - at,
                    (2 * many - at - 1,), (at + 1, at + 1)) for at in range(many)]
        self.check(records + [leaf_with(None, many, 1, 2)], "bounds")
        self.check(records, "record")


class OrderTest(CheckCase):
    """Two faults at once."""

    def test_the_order_at_one_page(self):
        leaf = leaf_with(9, 20, 12)
        self.check(bent(TWO_LEVELS, 2, leaf), "bounds")
        self.check(bent(TWO_LEVELS, 2, ("inner", 1, 9, 20, (), (5,))), "bounds")
        self.check(bent(TWO_LEVELS, 2, ("inner", 1, 10, 20, (), (5,))), "level")
        self.check(bent(TWO_LEVELS, 2, ("inner", 1, 10, 20, (15,), (5, 6))), "level")
        self.check([leaf_with(1, None, 1, 2, 3, 4, 5)], "bounds")
        self.check([("inner", 7, None, None, (), (1,))], "size")

    def test_a_parent_comes_before_its_children(self):
        records = bent(TWO_LEVELS, 1, ("free", 1))
        records[0] = ("inner", 1, None, 99, (10, 20), (1, 2, 3))
        self.check(records, "bounds")
        records[0] = ("inner", 1, None, None, (), (1,))
        self.check(records, "size")

    def test_the_children_from_left_to_right(self):
        wrong = {"record": ("free", 1), "bounds": leaf_with(None, None, 12, 13),
                 "size": leaf_with(10, 20, 12)}
        for word, record in wrong.items():
            records = bent(TWO_LEVELS, 2, record)
            records[3] = ("inner", 1, 20, None, (30,), (1, 2))
            self.check(records, word)
            records[1] = leaf_with(None, 10, 1)
            self.check(records, "size")
            records[1] = ("inner", 5, None, 10, (3,), (1, 2))
            self.check(records, "level")

    def test_all_below_a_page_comes_before_the_next_one(self):
        records = bent(THREE_LEVELS, 4, leaf_with(20, 40, 20))
        records[2] = ("free", 2)
        self.check(records, "size")
        records = bent(THREE_LEVELS, 2, ("free", 2))
        records[5] = leaf_with(40, 60, 40)
        self.check(records, "record")
        records = bent(THREE_LEVELS, 7, leaf_with(80, None, 80))
        records[5] = leaf_with(41, 60, 42, 43)
        self.check(records, "bounds")

    def test_lost_comes_last(self):
        for page, record, word in ((7, leaf_with(80, None, 80), "size"), (6, None, "record"),
                                   (5, leaf_with(41, 60, 42, 43), "bounds"),
                                   (1, leaf_with(None, 40, 5, 6), "level")):
            self.check(bent(THREE_LEVELS, page, record) + [leaf_with(None, None)], word)


class MapAndShapeTest(CheckCase):
    def test_the_map(self):
        self.assertEqual(tree_map(EXAMPLE), {1: 10, 3: 30, 5: 50, 6: 60})
        self.assertEqual(tree_map([leaf_with(None, None)]), {})
        found = tree_map(EXAMPLE)
        found[7] = 1
        self.assertEqual(len(tree_map(EXAMPLE)), 4)

    def test_the_shape(self):
        self.assertEqual(tree_shape(EXAMPLE), [(0, 1, 2), (1, 0, 2), (2, 0, 2)])
        self.assertEqual(tree_shape([leaf_with(None, None)]), [(0, 0, 0)])
        self.assertEqual(tree_shape(rows(TWO_LEVELS, 9)), [
            (0, 1, 3), (1, 0, 2), (2, 0, 3), (3, 0, 4)])
        self.assertEqual(tree_shape(rows(THREE_LEVELS)), [
            (0, 2, 2), (1, 1, 2), (3, 0, 2), (4, 0, 2), (2, 1, 3), (5, 0, 2), (6, 0, 3),
            (7, 0, 4)])
        turned = [("inner", 1, None, None, (5,), (2, 1)), EXAMPLE[2], EXAMPLE[1]]
        self.assertEqual(tree_shape(turned), [(0, 1, 2), (2, 0, 2), (1, 0, 2)])


class MemoryTest(unittest.TestCase):
    def begin(self, tree=None, threads=2):
        self.memory = Memory(Layout(threads, 8, 60))
        self.layout = self.memory.layout
        plant(self.memory, tree or {0: leaf_with(None, None)})
        self.stores = [Store(self.layout, thread) for thread in range(threads)]

    def test_a_new_memory(self):
        self.begin()
        before = state_of(self.memory)
        records = shown_records(self.memory)
        self.assertEqual(records, [leaf_with(None, None)] + [
            ("free", page) for page in range(1, 8)])
        records.pop()
        self.assertEqual(len(shown_records(self.memory)), 8)
        self.assertEqual(state_of(self.memory), before)

    def test_words_with_marks(self):
        changed = leaf_with(10, 20, 15, 16)
        for outcome, record in ((0, TWO_LEVELS[2]), (("failed", 9), TWO_LEVELS[2]),
                                (("done", 9), changed)):
            self.begin(TWO_LEVELS)
            put(self.memory, 50, changed)
            put(self.memory, 51, outcome)
            put(self.memory, self.layout.word(2), (52, 51, self.layout.record(2), 50))
            before = state_of(self.memory)
            self.assertEqual(shown_records(self.memory), rows({**TWO_LEVELS, 2: record}, 8))
            self.assertEqual(check_tree(shown_records(self.memory)), "")
            self.assertEqual(state_of(self.memory), before)

    def test_cells_of_a_new_memory(self):
        self.begin()
        before = state_of(self.memory)
        self.assertEqual(lost_cells(self.memory, self.stores), [])
        first = [self.layout.record(index) for index in range(8, 60)]
        self.assertEqual(lost_cells(self.memory, []), first)
        self.assertEqual(lost_cells(self.memory, self.stores[:1]), first[1::2])
        self.assertEqual(lost_cells(self.memory, self.stores[1:]), first[::2])
        self.assertEqual(state_of(self.memory), before)

    def test_cells_that_were_taken(self):
        self.begin()
        cells = self.stores[1].take(3, 2)[0]
        self.assertEqual(lost_cells(self.memory, self.stores), cells)
        # Waiting with a stamp or without one, it is not lost.
        self.stores[1].take_out(cells[1:])
        self.assertEqual(lost_cells(self.memory, self.stores), cells[:1])
        self.stores[1].set_stamp(0)
        self.assertEqual(lost_cells(self.memory, self.stores), cells[:1])
        self.stores[1].give_back(cells[:1], [])
        self.assertEqual(lost_cells(self.memory, self.stores), [])

    def test_cells_that_a_word_shows(self):
        self.begin()
        cell = self.stores[0].take(1, 0)[0][0]
        put(self.memory, self.layout.word(3), cell)
        self.assertEqual(lost_cells(self.memory, self.stores), [self.layout.record(3)])
        # A mark shows one of its two addresses.
        put(self.memory, 70, 0)
        put(self.memory, self.layout.word(3), (71, 70, self.layout.record(3), cell))
        self.assertEqual(lost_cells(self.memory, self.stores), [cell])

    def test_behind_calls(self):
        self.begin(threads=1)
        for key in range(9):
            play_alone(self.memory, machine_of(self.stores[0], ("put", key, key)))
            self.assertEqual(lost_cells(self.memory, self.stores), [])
            self.assertEqual(tree_map(shown_records(self.memory)),
                             {each: each for each in range(key + 1)})
        self.assertEqual(tree_faults(dict(enumerate(shown_records(self.memory)))), [])


if __name__ == "__main__":
    unittest.main()
