"""Points [36] to [41]: plans that are carried out, one after the other."""

import itertools
import random
import unittest

from espalier.changes import new_pages
from tests.plain import answer_and_map, random_call
from tests.trees import (
    Shelf, THREE_LEVELS, TWO_LEVELS, child_for, content, is_within, leaf_with, parts,
    tree_faults)

KEY_CALLS = ("look", "put", "add", "change", "take")


class GrowthCase(unittest.TestCase):
    def begin(self, records=None):
        self.shelf = Shelf(records)
        self.plain = content(self.shelf.records())

    def do(self, call):
        """Plan a call, look at the plan, carry it out, look at the tree."""
        before = self.shelf.records()
        path = self.shelf.path(call[1])
        found = self.shelf.plan(call)
        answer, self.plain = answer_and_map(self.plain, call)
        if found[0] == "answer":
            self.assertEqual(found, ("answer", answer))
            self.assertEqual(content(before), self.plain)
            return found
        self.assertEqual(found[:2], ("change", answer))
        self.check_entries(path, found[2])
        self.shelf.carry_out(found[2])
        self.check_tree(before, path)
        return found

    def check_entries(self, path, entries):
        """Point [39], and the numbers of point [41]."""
        pages = [page for page, _, _ in entries]
        old = [page for page in pages if page >= 0]
        new = [page for page in pages if page < 0]
        self.assertEqual(pages, sorted(set(old)) + [-1 - at for at in range(len(new))])
        self.assertEqual(new_pages(entries), len(new))
        self.assertLessEqual(len(entries), 2 * len(path) + 2)
        self.assertLessEqual(len(new), len(path) + 1)
        self.assertLessEqual(len(self.shelf.asked), len(path) - 1)
        for page, address, record in entries:
            self.assertEqual(address, None if page < 0 else self.shelf.rows[page][0])
            if record[0] == "free":
                self.assertEqual(record, ("free", page))
            if page >= 0:
                self.assertNotEqual(record, self.shelf.rows[page][1])

    def check_tree(self, before, path):
        """Point [40]."""
        records = self.shelf.records()
        self.assertEqual(tree_faults(records), [])
        self.assertEqual(content(records), self.plain)
        leaf = path[-1][0]
        others = [page for page in before if before[page][0] == "leaf"
                  and page != leaf and records[page] != before[page]]
        self.assertLessEqual(len(others), 1)
        self.assertTrue(set(others) <= set(self.shelf.asked), others)


class OrdersTest(GrowthCase):
    def grow_and_shrink(self, keys, order):
        self.begin()
        for key in keys:
            self.do(("put", key, 10 * key))
        deep = self.shelf.records()[0]
        for key in order:
            self.do(("take", key))
        self.assertEqual(self.shelf.records()[0], leaf_with(None, None))
        for page, record in self.shelf.records().items():
            self.assertEqual(record[0], "leaf" if page == 0 else "free")
        return deep[1] if deep[0] == "inner" else 0

    def test_all_orders_of_a_few_keys(self):
        for keys in itertools.permutations(range(6)):
            self.grow_and_shrink(keys, keys)
        for order in itertools.permutations(range(6)):
            self.grow_and_shrink(range(6), order)

    def test_up_and_down(self):
        for many, level in ((4, 0), (5, 1), (12, 1), (40, 2), (100, 3), (250, 4)):
            up = list(range(many))
            down = up[::-1]
            for keys in (up, down):
                for order in (up, down):
                    self.assertGreaterEqual(self.grow_and_shrink(keys, order), level)

    def test_from_both_ends_and_from_the_middle(self):
        up = list(range(80))
        ends = [key for pair in zip(up[:40], up[:39:-1]) for key in pair]
        self.assertEqual(sorted(ends), up)
        for keys in (ends, ends[::-1]):
            for order in (up, ends, ends[::-1]):
                self.assertGreaterEqual(self.grow_and_shrink(keys, order), 2)

    def test_orders_by_numbers_of_a_fixed_beginning(self):
        for seed in range(60):
            numbers = random.Random(seed)
            keys = list(range(-20, numbers.choice((0, 20, 80))))
            order = list(keys)
            numbers.shuffle(keys)
            numbers.shuffle(order)
            self.grow_and_shrink(keys, order)

    def test_huge_keys(self):
        keys = [sign * 10 ** at for at in range(20) for sign in (1, -1)]
        self.grow_and_shrink(keys, sorted(keys))


class CallsTest(GrowthCase):
    def test_all_five_kinds_of_calls(self):
        for seed in range(60):
            numbers = random.Random(100 + seed)
            self.begin(numbers.choice((None, TWO_LEVELS, THREE_LEVELS)))
            keys = numbers.choice((6, 20, 60, 100))
            for _ in range(300):
                self.do(random_call(numbers, keys, KEY_CALLS))

    def test_each_key_of_a_tree(self):
        for records in (TWO_LEVELS, THREE_LEVELS):
            for key in content(records):
                for call in (("take", key), ("put", key, 1), ("put", key + 1, 1),
                             ("put", key - 1, 1), ("add", key, 1), ("add", key + 2, 2),
                             ("change", key, 10 * key, 7), ("look", key)):
                    self.begin(records)
                    self.do(call)


class SiblingsTest(GrowthCase):
    """Which siblings are asked for."""

    def asked_by(self, records, key):
        self.begin(records)
        self.do(("take", key))
        return self.shelf.asked

    def test_leaves(self):
        self.assertEqual(self.asked_by(TWO_LEVELS, 1), [2])
        self.assertEqual(self.asked_by(TWO_LEVELS, 12), [])
        self.assertEqual(self.asked_by(TWO_LEVELS, 30), [])

    def test_inner_nodes_too(self):
        self.assertEqual(self.asked_by(THREE_LEVELS, 5), [4, 2])
        self.assertEqual(self.asked_by(THREE_LEVELS, 30), [3, 2])
        self.assertEqual(self.asked_by(THREE_LEVELS, 50), [6])
        self.assertEqual(self.asked_by(THREE_LEVELS, 70), [])

    def test_the_first_and_the_last_page(self):
        records = {
            0: ("inner", 1, None, None, (10, 20, 30), (3, 1, 4, 2)),
            3: leaf_with(None, 10, 1, 2), 1: leaf_with(10, 20, 10, 11),
            4: leaf_with(20, 30, 20, 21), 2: leaf_with(30, None, 30, 31)}
        for key, page in ((1, 1), (2, 1), (10, 3), (11, 3), (20, 1), (21, 1), (30, 4), (31, 4)):
            self.assertEqual(self.asked_by(records, key), [page])


class TwoPlansTest(GrowthCase):
    """Two plans of the same tree, one of them carried out before the other."""

    def pages_of(self, found):
        return {page for page, _, _ in found[2] if page >= 0}

    def test_with_and_without_a_common_page(self):
        fitting = 0
        for seed in range(150):
            numbers = random.Random(500 + seed)
            self.begin(THREE_LEVELS)
            for _ in range(numbers.randrange(40)):
                self.do(random_call(numbers, 100, ("put", "take", "add")))
            calls = [random_call(numbers, 100, ("put", "take", "add")) for _ in range(2)]
            first, second = [self.shelf.plan(call) for call in calls]
            if first[0] != "change" or second[0] != "change":
                continue
            self.shelf.carry_out(first[2])
            _, self.plain = answer_and_map(self.plain, calls[0])
            self.assertEqual(content(self.shelf.records()), self.plain)
            common = self.pages_of(first) & self.pages_of(second)
            self.assertEqual(self.shelf.fits(second[2]), not common)
            if not common:
                fitting += 1
                self.shelf.carry_out(second[2])
                answer, self.plain = answer_and_map(self.plain, calls[1])
                self.assertEqual(second[1], answer)
                self.assertEqual(tree_faults(self.shelf.records()), [])
                self.assertEqual(content(self.shelf.records()), self.plain)
        self.assertGreater(fitting, 40)

    def test_a_path_of_a_tree_that_was_changed_meanwhile(self):
        # Each step is read at another moment. A plan whose addresses still fit
        # at the last one must be right all the same.
        kinds = {"answer": 0, "stale": 0, "change": 0, "fits": 0}
        for seed in range(700):
            numbers = random.Random(900 + seed)
            self.begin(THREE_LEVELS)
            moments = [dict(self.shelf.rows)]
            for _ in range(12):
                self.do(random_call(numbers, 100, ("put", "take")))
                moments.append(dict(self.shelf.rows))
            for _ in range(6):
                call = random_call(numbers, 100, ("put", "take", "add"))
                found = MovingShelf(moments, numbers).plan(call)
                kinds[found[0]] += 1
                if found[0] == "change" and self.shelf.fits(found[2]):
                    kinds["fits"] += 1
                    self.check_behind(call, found)
        self.assertGreater(kinds["stale"], 2)
        self.assertGreater(kinds["fits"], 500)
        self.assertGreater(kinds["change"], kinds["fits"] + 500)

    def check_behind(self, call, found):
        """The change on a copy of the tree as it is at last."""
        answer, plain = answer_and_map(self.plain, call)
        self.assertEqual(found[1], answer)
        shelf = Shelf()
        shelf.rows = dict(self.shelf.rows)
        shelf.carry_out(found[2])
        self.assertEqual(tree_faults(shelf.records()), [])
        self.assertEqual(content(shelf.records()), plain)


class MovingShelf(Shelf):
    """A shelf that is some moments further on at each step."""

    def __init__(self, moments, numbers):
        Shelf.__init__(self)
        self.moments = moments
        self.numbers = numbers
        self.at = numbers.randrange(len(moments))

    def step(self, page):
        further = self.at + self.numbers.choice((0, 0, 1, 2, 4))
        self.at = min(further, len(self.moments) - 1)
        self.rows = self.moments[self.at]
        return Shelf.step(self, page)

    def path(self, key):
        """The path of a walk, which begins anew if a record is not right."""
        path = [self.step(0)]
        while path[-1][2][0] == "inner":
            level = parts(path[-1][2])[0]
            step = self.step(child_for(path[-1][2], key))
            own, low, high, _, _ = parts(step[2])
            if own == level - 1 and is_within(low, high, key):
                path.append(step)
            else:
                path = [self.step(0)]
        return path


if __name__ == "__main__":
    unittest.main()
