"""Points [35] to [39]: plans, one by one."""

import copy
import unittest

from espalier.changes import new_pages, placed, plan
from tests.trees import ONE_LEVEL, Shelf, THREE_LEVELS, TWO_LEVELS, leaf_with

FULL = {0: leaf_with(None, None, 1, 2, 3, 4)}


class PlansCase(unittest.TestCase):
    def ask(self, records, call):
        """Return the plan, with all siblings that it asks for; ask twice each time."""
        self.shelf = Shelf(records)
        path = self.shelf.path(call[1])
        siblings = {}
        self.asked = []
        while True:
            found = self.ask_twice(call, path, siblings)
            if found[0] != "read":
                return found
            self.asked.append(found[1])
            siblings[found[1]] = self.shelf.step(found[1])

    def ask_twice(self, call, path, siblings):
        kept = copy.deepcopy((call, path, siblings))
        found = plan(call, path, siblings)
        again = copy.deepcopy(found)
        self.assertEqual((call, path, siblings), kept)
        self.assertEqual(plan(call, path, siblings), again)
        self.assertEqual(found, again)
        return found

    def check(self, records, call, answer, changed, asked=()):
        """A change: `changed` are tuples (page, record), new pages as -1, -2, .."""
        found = self.ask(records, call)
        self.assertEqual(found, ("change", answer, [
            (page, None if page < 0 else 100 + page, record) for page, record in changed]))
        self.assertEqual(self.asked, list(asked))

    def check_answer(self, records, call, answer):
        found = self.ask(records, call)
        self.assertEqual(found, ("answer", answer))
        self.assertEqual(isinstance(found[1], bool), isinstance(answer, bool))
        self.assertEqual(self.asked, [])


class AnswersTest(PlansCase):
    """Point [36]: the answers, and when a call changes nothing."""

    def test_calls_that_change_nothing(self):
        for records, here, missing in (
                (ONE_LEVEL, 20, 25), (TWO_LEVELS, 12, 13), (TWO_LEVELS, 40, 41),
                (THREE_LEVELS, 75, 76), (THREE_LEVELS, 5, -5)):
            for call, answer in (
                    (("look", here), 10 * here), (("look", missing), None),
                    (("put", here, 10 * here), 10 * here),
                    (("add", here, 7), False), (("add", here, 10 * here), False),
                    (("change", here, 7, 8), False), (("change", here, 7, 7), False),
                    (("change", here, 7, 10 * here), False),
                    (("change", here, 10 * here, 10 * here), True),
                    (("change", missing, 7, 8), False), (("change", missing, 0, 0), False),
                    (("take", missing), None)):
                self.check_answer(records, call, answer)

    def test_an_empty_tree(self):
        for call, answer in ((("look", 5), None), (("take", 5), None),
                             (("change", 5, 0, 1), False)):
            self.check_answer(None, call, answer)

    def test_the_value_0_is_a_value(self):
        records = {0: ("leaf", None, None, (0, 1), (0, 0))}
        self.check_answer(records, ("look", 0), 0)
        self.check_answer(records, ("put", 0, 0), 0)
        self.check_answer(records, ("add", 0, 5), False)
        self.check_answer(records, ("change", 0, 0, 0), True)
        self.check(records, ("take", 0), 0, [(0, ("leaf", None, None, (1,), (0,)))])
        self.check(records, ("put", 0, 5), 0, [(0, ("leaf", None, None, (0, 1), (5, 0)))])

    def test_a_full_leaf_changes_a_value(self):
        self.check(FULL, ("put", 3, 7), 30,
                   [(0, ("leaf", None, None, (1, 2, 3, 4), (10, 20, 7, 40)))])
        self.check(FULL, ("change", 3, 30, 7), True,
                   [(0, ("leaf", None, None, (1, 2, 3, 4), (10, 20, 7, 40)))])
        self.check_answer(FULL, ("add", 4, 7), False)

    def test_calls_that_change_one_leaf(self):
        self.check(None, ("put", 5, 50), None, [(0, leaf_with(None, None, 5))])
        self.check(None, ("add", 5, 50), True, [(0, leaf_with(None, None, 5))])
        self.check(ONE_LEVEL, ("put", 25, 250), None, [(0, leaf_with(None, None, 10, 20, 25, 30))])
        self.check(ONE_LEVEL, ("take", 10), 100, [(0, leaf_with(None, None, 20, 30))])
        self.check({0: leaf_with(None, None, 5)}, ("take", 5), 50, [(0, leaf_with(None, None))])
        self.check(TWO_LEVELS, ("put", 11, 110), None, [(2, leaf_with(10, 20, 10, 11, 12, 19))])
        self.check(TWO_LEVELS, ("add", -3, -30), True, [(1, leaf_with(None, 10, -3, 1, 5))])
        self.check(TWO_LEVELS, ("take", 12), 120, [(2, leaf_with(10, 20, 10, 19))])
        self.check(THREE_LEVELS, ("take", 95), 950, [(7, leaf_with(80, None, 80, 85, 90))])
        self.check(THREE_LEVELS, ("put", 20, 1), 200,
                   [(4, ("leaf", 20, 40, (20, 30), (1, 300)))])

    def test_huge_keys_and_values(self):
        huge = 10 ** 30
        self.check(TWO_LEVELS, ("put", -huge, huge), None, [
            (1, ("leaf", None, 10, (-huge, 1, 5), (huge, 10, 50)))])


class CutsTest(PlansCase):
    """Point [37], the first part."""

    def test_the_example_of_the_document(self):
        self.check(FULL, ("put", 5, 50), None, [
            (0, ("inner", 1, None, None, (4,), (-1, -2))),
            (-1, leaf_with(None, 4, 1, 2, 3)), (-2, leaf_with(4, None, 4, 5))])

    def test_page_0_as_a_leaf(self):
        self.check(FULL, ("add", 0, 0), True, [
            (0, ("inner", 1, None, None, (3,), (-1, -2))),
            (-1, leaf_with(None, 3, 0, 1, 2)), (-2, leaf_with(3, None, 3, 4))])

    def test_a_leaf_at_each_place_of_its_parent(self):
        records = {
            0: ("inner", 1, None, None, (10, 20), (1, 2, 3)),
            1: leaf_with(None, 10, 1, 2, 3, 4), 2: leaf_with(10, 20, 11, 12, 13, 14),
            3: leaf_with(20, None, 21, 22, 23, 24)}
        self.check(records, ("put", 5, 50), None, [
            (0, ("inner", 1, None, None, (4, 10, 20), (1, -1, 2, 3))),
            (1, leaf_with(None, 4, 1, 2, 3)), (-1, leaf_with(4, 10, 4, 5))])
        self.check(records, ("put", 10, 100), None, [
            (0, ("inner", 1, None, None, (10, 13, 20), (1, 2, -1, 3))),
            (2, leaf_with(10, 13, 10, 11, 12)), (-1, leaf_with(13, 20, 13, 14))])
        self.check(records, ("put", 99, 990), None, [
            (0, ("inner", 1, None, None, (10, 20, 24), (1, 2, 3, -1))),
            (3, leaf_with(20, 24, 21, 22, 23)), (-1, leaf_with(24, None, 24, 99))])

    def wide(self):
        """An inner page 0 with five full leaves."""
        records = {0: ("inner", 1, None, None, (10, 20, 30, 40), (1, 2, 3, 4, 5))}
        for page in range(1, 6):
            low = 10 * page - 10
            records[page] = leaf_with(
                low if page > 1 else None, low + 10 if page < 5 else None,
                low + 1, low + 2, low + 3, low + 4)
        return records

    def test_page_0_as_an_inner_node(self):
        self.check(self.wide(), ("put", 25, 250), None, [
            (0, ("inner", 2, None, None, (24,), (-2, -3))),
            (3, leaf_with(20, 24, 21, 22, 23)),
            (-1, leaf_with(24, 30, 24, 25)),
            (-2, ("inner", 1, None, 24, (10, 20), (1, 2, 3))),
            (-3, ("inner", 1, 24, None, (30, 40), (-1, 4, 5)))])

    def test_page_0_as_an_inner_node_by_its_first_child(self):
        self.check(self.wide(), ("put", 5, 50), None, [
            (0, ("inner", 2, None, None, (20,), (-2, -3))),
            (1, leaf_with(None, 4, 1, 2, 3)),
            (-1, leaf_with(4, 10, 4, 5)),
            (-2, ("inner", 1, None, 20, (4, 10), (1, -1, 2))),
            (-3, ("inner", 1, 20, None, (30, 40), (3, 4, 5)))])

    def under_a_root(self):
        """An inner page 1 with five pages, four of them full, below page 0."""
        records = {0: ("inner", 2, None, None, (100,), (1, 2)),
                   1: ("inner", 1, None, 100, (10, 20, 30, 40), (3, 4, 5, 6, 7)),
                   2: ("inner", 1, 100, None, (200,), (8, 9)),
                   8: leaf_with(100, 200, 100, 101), 9: leaf_with(200, None, 200, 201)}
        for page in range(3, 8):
            low = 10 * page - 30
            records[page] = leaf_with(
                low if page > 3 else None, low + 10 if page < 7 else 100,
                low + 1, low + 2, low + 3, low + 4)
        return records

    def test_an_inner_node_below_page_0(self):
        self.check(self.under_a_root(), ("put", 45, 450), None, [
            (0, ("inner", 2, None, None, (30, 100), (1, -2, 2))),
            (1, ("inner", 1, None, 30, (10, 20), (3, 4, 5))),
            (7, leaf_with(40, 44, 41, 42, 43)),
            (-1, leaf_with(44, 100, 44, 45)),
            (-2, ("inner", 1, 30, 100, (40, 44), (6, 7, -1)))])

    def test_every_level_is_cut(self):
        records = self.under_a_root()
        for page in (20, 21, 22):
            # These pages are never looked at.
            low = 300 * page
            records[page] = ("inner", 1, low, low + 300, (low + 1,), (30, 31))
        records[0] = ("inner", 2, None, None, (100, 6000, 6300, 6600), (1, 2, 20, 21, 22))
        self.check(records, ("put", 45, 450), None, [
            (0, ("inner", 3, None, None, (6000,), (-3, -4))),
            (1, ("inner", 1, None, 30, (10, 20), (3, 4, 5))),
            (7, leaf_with(40, 44, 41, 42, 43)),
            (-1, leaf_with(44, 100, 44, 45)),
            (-2, ("inner", 1, 30, 100, (40, 44), (6, 7, -1))),
            (-3, ("inner", 2, None, 6000, (30, 100), (1, -2, 2))),
            (-4, ("inner", 2, 6000, None, (6300, 6600), (20, 21, 22)))])


class JoinsTest(PlansCase):
    """Point [37], the second and the third part."""

    def leaves(self, *keys):
        """Page 0 with a leaf for each tuple of keys, cut at 10, 20, .."""
        borders = [None] + [10 * at for at in range(1, len(keys))] + [None]
        records = {0: ("inner", 1, None, None, tuple(borders[1:-1]),
                       tuple(range(1, len(keys) + 1)))}
        for at, row in enumerate(keys):
            records[at + 1] = leaf_with(borders[at], borders[at + 1], *row)
        return records

    def test_the_example_of_the_document(self):
        records = {0: ("inner", 1, None, None, (4,), (1, 2)),
                   1: leaf_with(None, 4, 1, 2, 3), 2: leaf_with(4, None, 4, 5)}
        self.check(records, ("take", 5), 50, [
            (0, leaf_with(None, None, 1, 2, 3, 4)), (1, ("free", 1)), (2, ("free", 2))], [1])

    def test_with_the_sibling_before(self):
        records = self.leaves((1, 2), (10, 11), (20, 21))
        self.check(records, ("take", 10), 100, [
            (0, ("inner", 1, None, None, (20,), (1, 3))),
            (1, leaf_with(None, 20, 1, 2, 11)), (2, ("free", 2))], [1])
        self.check(records, ("take", 21), 210, [
            (0, ("inner", 1, None, None, (10,), (1, 2))),
            (2, leaf_with(10, None, 10, 11, 20)), (3, ("free", 3))], [2])

    def test_with_the_sibling_behind(self):
        records = self.leaves((1, 2), (10, 11, 12), (20, 21))
        self.check(records, ("take", 1), 10, [
            (0, ("inner", 1, None, None, (20,), (1, 3))),
            (1, leaf_with(None, 20, 2, 10, 11, 12)), (2, ("free", 2))], [2])

    def test_keys_move_from_the_sibling_before(self):
        records = self.leaves((1, 2, 3, 4), (10, 11), (20, 21))
        self.check(records, ("take", 11), 110, [
            (0, ("inner", 1, None, None, (4, 20), (1, 2, 3))),
            (1, leaf_with(None, 4, 1, 2, 3)), (2, leaf_with(4, 20, 4, 10))], [1])

    def test_keys_move_from_the_sibling_behind(self):
        records = self.leaves((1, 2), (10, 11, 12, 13), (20, 21))
        self.check(records, ("take", 2), 20, [
            (0, ("inner", 1, None, None, (12, 20), (1, 2, 3))),
            (1, leaf_with(None, 12, 1, 10, 11)), (2, leaf_with(12, 20, 12, 13))], [2])

    def test_the_sibling_is_asked_for(self):
        records = self.leaves((1, 2), (10, 11), (20, 21), (30, 31))
        for key, page in ((1, 2), (2, 2), (10, 1), (21, 2), (30, 3)):
            shelf = Shelf(records)
            path = shelf.path(key)
            self.assertEqual(self.ask_twice(("take", key), path, {}), ("read", page))
            others = {other: shelf.step(other) for other in range(1, 5) if other != page}
            self.assertEqual(self.ask_twice(("take", key), path, others), ("read", page))
            self.assertEqual(
                self.ask_twice(("take", key), path, {page: shelf.step(page)})[0], "change")

    def test_siblings_that_are_not_needed(self):
        shelf = Shelf(self.leaves((1, 2, 3), (10, 11)))
        siblings = {2: (2, 7, ("free", 2), 9)}
        self.assertEqual(plan(("take", 1), shelf.path(1), siblings), (
            "change", 10, [(1, 101, leaf_with(None, 10, 2, 3))]))

    def deep(self, left=2, right=2):
        """Three levels: inner pages with so many leaves of two keys each."""
        records = {0: ("inner", 2, None, None, (100,), (1, 2))}
        borders = [None] + [10 * at for at in range(1, left)] + [100]
        records[1] = ("inner", 1, None, 100, tuple(borders[1:-1]), tuple(range(10, 10 + left)))
        for at in range(left):
            records[10 + at] = leaf_with(
                borders[at], borders[at + 1], 10 * at + 1, 10 * at + 2)
        borders = [100] + [100 + 10 * at for at in range(1, right)] + [None]
        records[2] = ("inner", 1, 100, None, tuple(borders[1:-1]), tuple(range(20, 20 + right)))
        for at in range(right):
            records[20 + at] = leaf_with(
                borders[at], borders[at + 1], 100 + 10 * at, 101 + 10 * at)
        return records

    def test_inner_nodes_are_put_together_and_page_0_gets_lower(self):
        self.check(self.deep(), ("take", 1), 10, [
            (0, ("inner", 1, None, None, (100, 110), (10, 20, 21))),
            (1, ("free", 1)), (2, ("free", 2)),
            (10, leaf_with(None, 100, 2, 11, 12)), (11, ("free", 11))], [11, 2])
        self.check(self.deep(), ("take", 111), 1110, [
            (0, ("inner", 1, None, None, (10, 100), (10, 11, 20))),
            (1, ("free", 1)), (2, ("free", 2)),
            (20, leaf_with(100, None, 100, 101, 110)), (21, ("free", 21))], [20, 1])

    def test_inner_nodes_up_to_five_pages(self):
        self.check(self.deep(4, 2), ("take", 100), 1000, [
            (0, ("inner", 1, None, None, (10, 20, 30, 100), (10, 11, 12, 13, 20))),
            (1, ("free", 1)), (2, ("free", 2)),
            (20, leaf_with(100, None, 101, 110, 111)), (21, ("free", 21))], [21, 1])

    def test_pages_move_from_the_inner_node_before(self):
        self.check(self.deep(5, 2), ("take", 100), 1000, [
            (0, ("inner", 2, None, None, (30,), (1, 2))),
            (1, ("inner", 1, None, 30, (10, 20), (10, 11, 12))),
            (2, ("inner", 1, 30, None, (40, 100), (13, 14, 20))),
            (20, leaf_with(100, None, 101, 110, 111)), (21, ("free", 21))], [21, 1])

    def test_pages_move_from_the_inner_node_behind(self):
        self.check(self.deep(2, 5), ("take", 12), 120, [
            (0, ("inner", 2, None, None, (120,), (1, 2))),
            (1, ("inner", 1, None, 120, (100, 110), (10, 20, 21))),
            (2, ("inner", 1, 120, None, (130, 140), (22, 23, 24))),
            (10, leaf_with(None, 100, 1, 2, 11)), (11, ("free", 11))], [10, 2])

    def test_page_0_keeps_its_level(self):
        records = self.deep()
        records[0] = ("inner", 2, None, None, (100, 500), (1, 2, 3))
        records[2] = records[2][:3] + (500,) + records[2][4:]
        records[21] = records[21][:2] + (500,) + records[21][3:]
        records[3] = ("inner", 1, 500, None, (600,), (30, 31))
        records[30] = leaf_with(500, 600, 500, 501)
        records[31] = leaf_with(600, None, 600, 601)
        self.check(records, ("take", 110), 1100, [
            (0, ("inner", 2, None, None, (500,), (1, 3))),
            (1, ("inner", 1, None, 500, (10, 100), (10, 11, 20))),
            (2, ("free", 2)),
            (20, leaf_with(100, 500, 100, 101, 111)), (21, ("free", 21))], [20, 1])

    def test_a_parent_that_keeps_two_pages(self):
        self.check(self.deep(3, 2), ("take", 22), 220, [
            (1, ("inner", 1, None, 100, (10,), (10, 11))),
            (11, leaf_with(10, 100, 11, 12, 21)), (12, ("free", 12))], [11])


class FittingTest(PlansCase):
    """Point [38]: parents and siblings that do not fit."""

    def setUp(self):
        self.shelf = Shelf({
            0: ("inner", 1, None, None, (10, 20), (1, 2, 3)),
            1: leaf_with(None, 10, 1, 2), 2: leaf_with(10, 20, 11, 12, 13, 14),
            3: leaf_with(20, None, 21, 22)})

    def path(self, key, parent=None, below=None):
        """The path to a key, perhaps with another parent's or leaf's record."""
        path = self.shelf.path(key)
        if parent is not None:
            path[0] = path[0][:2] + (parent, path[0][3])
        if below is not None:
            path[1] = path[1][:2] + (below, path[1][3])
        return path

    def sibling(self, page, record):
        return {page: self.shelf.step(page)[:2] + (record, 9)}

    def test_parents_that_do_not_fit(self):
        for keys, pages in (
                ((10, 20), (1, 4, 3)), ((10,), (1, 3)), ((20,), (2, 3)), ((10,), (1, 2)),
                ((9, 20), (1, 2, 3)), ((11, 20), (1, 2, 3)), ((10, 21), (1, 2, 3)),
                ((10, 19), (1, 2, 3)), ((10, 15, 20), (1, 2, 4, 3)), ((10, 20), (2, 1, 3))):
            parent = ("inner", 1, None, None, keys, pages)
            path = self.path(15, parent)
            self.assertEqual(self.ask_twice(("put", 15, 1), path, {}), ("stale",), parent)
        fitting = ("inner", 1, None, None, (5, 10, 20, 30), (7, 8, 2, 3, 4))
        self.assertEqual(plan(("put", 15, 1), self.path(15, fitting), {})[0], "change")

    def test_a_parent_that_is_not_used_need_not_fit(self):
        path = self.path(11, ("inner", 1, None, None, (10,), (1, 3)))
        for call in (("take", 11), ("put", 11, 1), ("look", 11), ("add", 11, 1)):
            self.assertIn(self.ask_twice(call, path, {})[0], ("change", "answer"))

    def test_a_parent_that_does_not_fit_where_a_sibling_is_needed(self):
        for parent in (("inner", 1, None, None, (10, 20), (1, 2, 4)),
                       ("inner", 1, None, None, (10, 19), (1, 2, 3))):
            path = self.path(21, parent)
            self.assertEqual(self.ask_twice(("take", 21), path, {}), ("stale",))
            siblings = {2: self.shelf.step(2)}
            self.assertEqual(self.ask_twice(("take", 21), path, siblings), ("stale",))

    def test_the_record_in_the_path_counts_and_not_the_new_one(self):
        # The leaf was wider when it was read than its parent says.
        path = self.path(15, None, leaf_with(10, 25, 11, 12, 13, 14))
        self.assertEqual(self.ask_twice(("put", 15, 1), path, {}), ("stale",))
        path = self.path(15, None, leaf_with(None, 20, 11, 12, 13, 14))
        self.assertEqual(self.ask_twice(("put", 15, 1), path, {}), ("stale",))

    def test_siblings_that_do_not_fit(self):
        for record in (("free", 2), ("inner", 1, 10, 20, (15,), (7, 8)), leaf_with(10, 19, 11),
                       leaf_with(9, 20, 11), leaf_with(10, None, 11), leaf_with(None, 20, 11),
                       leaf_with(None, 10, 1, 2)):
            found = self.ask_twice(("take", 21), self.path(21), self.sibling(2, record))
            self.assertEqual(found, ("stale",), record)
        fitting = self.sibling(2, leaf_with(10, 20, 11))
        self.assertEqual(plan(("take", 21), self.path(21), fitting)[0], "change")

    def test_siblings_behind_that_do_not_fit(self):
        for record in (("free", 2), leaf_with(10, 21, 11), leaf_with(11, 20, 11),
                       ("inner", 1, 10, 20, (15,), (7, 8))):
            found = self.ask_twice(("take", 1), self.path(1), self.sibling(2, record))
            self.assertEqual(found, ("stale",), record)

    def deep_path(self, middle):
        """A path to 21 over an inner page whose record is passed."""
        root = ("inner", 2, None, None, (10, 40), (7, 8, 9))
        leaf = leaf_with(20, 30, 21, 22, 23, 24)
        return [(0, 100, root, 1), (8, 108, middle, 2), (3, 103, leaf, 3)]

    def test_parents_further_up(self):
        pages = (2, 3, 4, 5, 6)
        path = self.deep_path(("inner", 1, 10, 40, (20, 30, 33, 36), pages))
        self.assertEqual(self.ask_twice(("put", 25, 1), path, {})[0], "change")
        for low, high in ((11, 40), (10, 41), (None, 40), (10, None), (9, 39)):
            path = self.deep_path(("inner", 1, low, high, (20, 30, 33, 36), pages))
            self.assertEqual(self.ask_twice(("put", 25, 1), path, {}), ("stale",))
            # With room for one page more, nothing above is used.
            path = self.deep_path(("inner", 1, low, high, (20, 30, 33), pages[:4]))
            self.assertEqual(self.ask_twice(("put", 25, 1), path, {})[0], "change")

    def test_what_is_missing_below_comes_first(self):
        # The sibling of the leaf is asked for before it is seen that page 8 does not fit.
        root = ("inner", 2, None, None, (10, 40), (7, 18, 9))
        middle = ("inner", 1, 10, 40, (20,), (2, 3))
        path = [(0, 100, root, 1), (8, 108, middle, 2), (3, 103, leaf_with(20, 40, 21, 22), 3)]
        self.assertEqual(self.ask_twice(("take", 21), path, {}), ("read", 2))
        sibling = {2: (2, 102, leaf_with(10, 20, 11, 12), 4)}
        self.assertEqual(self.ask_twice(("take", 21), path, sibling), ("stale",))

    def test_a_page_that_the_path_has_at_two_places(self):
        # Page 5 was an inner node of level 2 when it was read; then it was
        # freed, and now it is a leaf under page 8.
        path = [
            (0, 100, ("inner", 3, None, None, (50,), (5, 6)), 1),
            (5, 105, ("inner", 2, None, 50, (45,), (8, 9)), 2),
            (8, 108, ("inner", 1, None, 45, (10, 20, 30, 36), (1, 2, 3, 4, 5)), 3),
            (5, 905, leaf_with(36, 45, 36, 37, 38, 39), 4)]
        self.assertEqual(self.ask_twice(("take", 38), path, {}), (
            "change", 380, [(5, 905, leaf_with(36, 45, 36, 37, 39))]))
        self.assertEqual(self.ask_twice(("put", 41, 7), path, {}), ("stale",))

    def test_nothing_is_asked_for_above_such_a_page(self):
        path = [
            (0, 100, ("inner", 4, None, None, (90,), (20, 21)), 1),
            (20, 120, ("inner", 3, None, 90, (50,), (5, 6)), 2),
            (5, 105, ("inner", 2, None, 50, (40,), (8, 9)), 3),
            (8, 108, ("inner", 1, None, 40, (30,), (5, 4)), 4),
            (5, 905, leaf_with(None, 30, 1, 2), 5)]
        steps = [(4, 104, leaf_with(30, 40, 31, 32), 6),
                 (9, 109, ("inner", 1, 40, 50, (45,), (10, 11)), 7),
                 (6, 106, ("inner", 2, 50, 90, (70,), (12, 13)), 8)]
        siblings = {}
        for step in steps:
            found = self.ask_twice(("take", 1), path, siblings)
            self.assertEqual(found, ("read", step[0]))
            siblings[step[0]] = step
        self.assertEqual(self.ask_twice(("take", 1), path, siblings), ("stale",))


class PlacedTest(unittest.TestCase):
    ENTRIES = [
        (0, 100, ("inner", 2, None, None, (-1,), (-2, -3))),
        (4, 104, ("leaf", -2, -1, (-2,), (-1,))),
        (6, 106, ("free", 6)),
        (-1, None, ("leaf", None, -2, (-9, -3), (-1, -2))),
        (-2, None, ("inner", 1, -3, -1, (-2,), (4, -1))),
        (-3, None, ("inner", 1, -1, None, (5, 6), (-1, 7, -2)))]

    def test_only_pages_are_replaced(self):
        kept = copy.deepcopy(self.ENTRIES)
        wanted = [
            (0, 100, ("inner", 2, None, None, (-1,), (9, 11))),
            (4, 104, ("leaf", -2, -1, (-2,), (-1,))),
            (6, 106, ("free", 6)),
            (7, None, ("leaf", None, -2, (-9, -3), (-1, -2))),
            (9, None, ("inner", 1, -3, -1, (-2,), (4, 7))),
            (11, None, ("inner", 1, -1, None, (5, 6), (7, 7, 9)))]
        for pages in ([7, 9, 11], [7, 9, 11, 13], [7, 9, 11, 2, 1, 3, 5]):
            given = list(pages)
            self.assertEqual(placed(self.ENTRIES, pages), wanted)
            self.assertEqual(pages, given)
        self.assertEqual(self.ENTRIES, kept)

    def test_pages_in_any_order(self):
        entries = [(0, 9, ("inner", 1, None, None, (4,), (-1, -2))),
                   (-1, None, leaf_with(None, 4, 1, 2)), (-2, None, leaf_with(4, None, 4, 5))]
        self.assertEqual(placed(entries, [8, 3]), [
            (0, 9, ("inner", 1, None, None, (4,), (8, 3))),
            (8, None, leaf_with(None, 4, 1, 2)), (3, None, leaf_with(4, None, 4, 5))])

    def test_nothing_to_replace(self):
        entries = [(0, 9, leaf_with(None, None, -1, 1))]
        for pages in ([], [7], [7, 8]):
            self.assertEqual(placed(entries, pages), entries)
            self.assertIsNot(placed(entries, pages), entries)
        self.assertEqual(placed([], [1]), [])

    def test_the_number_of_new_pages(self):
        self.assertEqual(new_pages(self.ENTRIES), 3)
        self.assertEqual(new_pages(self.ENTRIES[:3]), 0)
        self.assertEqual(new_pages(self.ENTRIES[3:4]), 1)
        self.assertEqual(new_pages([]), 0)


if __name__ == "__main__":
    unittest.main()
