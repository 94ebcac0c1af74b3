"""Points [27] to [29]: what records tell, and records made from records."""

import unittest

from espalier.errors import Broken
from espalier.nodes import (
    bounds_of, child_bounds, child_of, covers, cut, inner, is_record, joined, leaf, level_of,
    size_of, value_in, with_child, with_separator, with_value, without_child, without_key)

HUGE = 10 ** 20

EMPTY = ("leaf", None, None, (), ())
LEAF = ("leaf", 5, 20, (5, 8, 12), (50, 80, 120))
INNER = ("inner", 2, 4, 20, (6, 9, 15), (7, 3, 5, 1))
LONELY = ("inner", 1, None, None, (), (3,))
FREE = ("free", 3)


class TellingTest(unittest.TestCase):
    def test_levels(self):
        for record, level in (
                (EMPTY, 0), (LEAF, 0), (INNER, 2), (LONELY, 1), (FREE, -1), (("free", 0), -1),
                (("inner", HUGE, None, None, (), (3,)), HUGE)):
            self.assertEqual(level_of(record), level)

    def test_sizes(self):
        for record, size in (
                (EMPTY, 0), (LEAF, 3), (INNER, 4), (LONELY, 1),
                (leaf(None, None, range_list(5), range_list(5)), 5),
                (inner(1, None, None, range_list(5), range_list(6)), 6)):
            self.assertEqual(size_of(record), size)

    def test_bounds(self):
        for record, bounds in (
                (EMPTY, (None, None)), (LEAF, (5, 20)), (INNER, (4, 20)), (LONELY, (None, None)),
                (("leaf", None, 3, (), ()), (None, 3)), (("leaf", 3, None, (), ()), (3, None)),
                (("inner", 7, None, 3, (), (1,)), (None, 3)),
                (("inner", 7, 3, None, (), (1,)), (3, None))):
            self.assertEqual(bounds_of(record), bounds)

    def test_the_bounds_of_children(self):
        self.assertEqual([child_bounds(INNER, index) for index in range(4)],
                         [(4, 6), (6, 9), (9, 15), (15, 20)])
        record = ("inner", 1, None, None, (0, HUGE), (1, 2, 3))
        self.assertEqual([child_bounds(record, index) for index in range(3)],
                         [(None, 0), (0, HUGE), (HUGE, None)])
        self.assertEqual(child_bounds(LONELY, 0), (None, None))
        self.assertEqual(child_bounds(("inner", 1, 4, 9, (), (3,)), 0), (4, 9))


def range_list(many):
    return list(range(many))


class KeysTest(unittest.TestCase):
    def test_covered_keys(self):
        for record, inside, outside in (
                (EMPTY, (-HUGE, -1, 0, 1, HUGE), ()),
                (LEAF, (5, 6, 19), (4, 20, 21, -HUGE, HUGE)),
                (("leaf", 5, 6, (), ()), (5,), (4, 6)),
                (("leaf", None, 0, (), ()), (-1, -HUGE), (0, 1)),
                (("leaf", 0, None, (), ()), (0, 1, HUGE), (-1,)),
                (("leaf", HUGE, HUGE + 2, (), ()), (HUGE, HUGE + 1), (HUGE - 1, HUGE + 2)),
                (INNER, (4, 5, 6, 19), (3, 20)),
                (("inner", 1, None, 0, (), (3,)), (-1,), (0,)),
                (("inner", 1, 0, None, (), (3,)), (0,), (-1,)),
                (LONELY, (-HUGE, 0, HUGE), ()),
                (FREE, (), (-1, 0, 1, 3, HUGE))):
            for key in inside:
                self.assertIs(covers(record, key), True, (record, key))
            for key in outside:
                self.assertIs(covers(record, key), False, (record, key))

    def test_values(self):
        for key, value in ((5, 50), (8, 80), (12, 120), (6, None), (4, None), (20, None),
                           (HUGE, None)):
            self.assertEqual(value_in(LEAF, key), value)
        self.assertIsNone(value_in(EMPTY, 0))
        record = ("leaf", None, None, (-1, 0, HUGE), (0, HUGE, -1))
        self.assertEqual([value_in(record, key) for key in (-1, 0, HUGE)], [0, HUGE, -1])

    def test_the_child_of_a_key(self):
        for key, index in ((4, 0), (5, 0), (6, 1), (8, 1), (9, 2), (14, 2), (15, 3), (19, 3)):
            self.assertEqual(child_of(INNER, key), index)
        for key in (-HUGE, 0, HUGE):
            self.assertEqual(child_of(LONELY, key), 0)
        record = ("inner", 1, None, None, (0, HUGE), (1, 2, 3))
        self.assertEqual([child_of(record, key) for key in (-1, 0, HUGE - 1, HUGE, HUGE + 1)],
                         [0, 1, 1, 2, 2])

    def test_the_child_of_a_key_covers_it(self):
        for key in range(4, 20):
            low, high = child_bounds(INNER, child_of(INNER, key))
            self.assertTrue(low <= key < high)


class LeavesTest(unittest.TestCase):
    def test_a_key_with_another_value(self):
        self.assertEqual(with_value(LEAF, 5, 1), ("leaf", 5, 20, (5, 8, 12), (1, 80, 120)))
        self.assertEqual(with_value(LEAF, 8, 1), ("leaf", 5, 20, (5, 8, 12), (50, 1, 120)))
        self.assertEqual(with_value(LEAF, 12, 1), ("leaf", 5, 20, (5, 8, 12), (50, 80, 1)))
        self.assertEqual(with_value(LEAF, 12, 120), LEAF)

    def test_a_new_key(self):
        self.assertEqual(with_value(EMPTY, 7, 70), ("leaf", None, None, (7,), (70,)))
        self.assertEqual(with_value(LEAF, 6, 1), ("leaf", 5, 20, (5, 6, 8, 12), (50, 1, 80, 120)))
        self.assertEqual(with_value(LEAF, 11, 1),
                         ("leaf", 5, 20, (5, 8, 11, 12), (50, 80, 1, 120)))
        self.assertEqual(with_value(LEAF, 19, 1),
                         ("leaf", 5, 20, (5, 8, 12, 19), (50, 80, 120, 1)))
        record = ("leaf", 5, 20, (8,), (80,))
        self.assertEqual(with_value(record, 5, 1), ("leaf", 5, 20, (5, 8), (1, 80)))

    def test_a_fifth_key(self):
        record = ("leaf", None, None, (1, 2, 3, 4), (10, 20, 30, 40))
        self.assertEqual(with_value(record, 5, 50),
                         ("leaf", None, None, (1, 2, 3, 4, 5), (10, 20, 30, 40, 50)))
        self.assertEqual(with_value(record, -HUGE, HUGE),
                         ("leaf", None, None, (-HUGE, 1, 2, 3, 4), (HUGE, 10, 20, 30, 40)))

    def test_keys_in_any_order(self):
        record = EMPTY
        for key in (4, -2, 9, 0, HUGE, 3):
            record = with_value(record, key, key + 1)
        self.assertEqual(record, ("leaf", None, None, (-2, 0, 3, 4, 9, HUGE),
                                  (-1, 1, 4, 5, 10, HUGE + 1)))

    def test_without_a_key(self):
        self.assertEqual(without_key(LEAF, 5), ("leaf", 5, 20, (8, 12), (80, 120)))
        self.assertEqual(without_key(LEAF, 8), ("leaf", 5, 20, (5, 12), (50, 120)))
        self.assertEqual(without_key(LEAF, 12), ("leaf", 5, 20, (5, 8), (50, 80)))

    def test_without_the_last_key(self):
        self.assertEqual(without_key(("leaf", None, None, (7,), (70,)), 7), EMPTY)
        self.assertEqual(without_key(("leaf", 5, 9, (7,), (70,)), 7),
                         ("leaf", 5, 9, (), ()))

    def test_there_and_back(self):
        for key in (6, 11, 19):
            self.assertEqual(without_key(with_value(LEAF, key, 0), key), LEAF)

    def test_a_key_outside_of_the_bounds(self):
        for key in (4, 20):
            with self.assertRaises(Broken):
                with_value(LEAF, key, 0)


class InnersTest(unittest.TestCase):
    def test_a_new_child(self):
        self.assertEqual(with_child(INNER, 0, 5, 9),
                         ("inner", 2, 4, 20, (5, 6, 9, 15), (7, 9, 3, 5, 1)))
        self.assertEqual(with_child(INNER, 1, 7, 9),
                         ("inner", 2, 4, 20, (6, 7, 9, 15), (7, 3, 9, 5, 1)))
        self.assertEqual(with_child(INNER, 3, 16, 9),
                         ("inner", 2, 4, 20, (6, 9, 15, 16), (7, 3, 5, 1, 9)))
        self.assertEqual(with_child(LONELY, 0, HUGE, -1),
                         ("inner", 1, None, None, (HUGE,), (3, -1)))

    def test_a_sixth_child(self):
        record = inner(1, None, None, [1, 2, 3, 4], [1, 2, 3, 4, 5])
        self.assertEqual(with_child(record, 4, 9, 8),
                         ("inner", 1, None, None, (1, 2, 3, 4, 9), (1, 2, 3, 4, 5, 8)))

    def test_without_a_child(self):
        self.assertEqual(without_child(INNER, 1), ("inner", 2, 4, 20, (9, 15), (7, 5, 1)))
        self.assertEqual(without_child(INNER, 2), ("inner", 2, 4, 20, (6, 15), (7, 3, 1)))
        self.assertEqual(without_child(INNER, 3), ("inner", 2, 4, 20, (6, 9), (7, 3, 5)))
        self.assertEqual(without_child(("inner", 1, None, None, (5,), (3, 4)), 1), LONELY)

    def test_there_and_back(self):
        for index, separator in ((0, 5), (1, 8), (2, 10), (3, 19)):
            record = with_child(INNER, index, separator, 9)
            self.assertEqual(without_child(record, index + 1), INNER)

    def test_another_separator(self):
        self.assertEqual(with_separator(INNER, 1, 5), ("inner", 2, 4, 20, (5, 9, 15), (7, 3, 5, 1)))
        self.assertEqual(with_separator(INNER, 2, 14),
                         ("inner", 2, 4, 20, (6, 14, 15), (7, 3, 5, 1)))
        self.assertEqual(with_separator(INNER, 3, 19),
                         ("inner", 2, 4, 20, (6, 9, 19), (7, 3, 5, 1)))
        self.assertEqual(with_separator(INNER, 3, 15), INNER)
        self.assertEqual(with_separator(("inner", 1, None, None, (5,), (3, 4)), 1, -HUGE),
                         ("inner", 1, None, None, (-HUGE,), (3, 4)))

    def test_separators_at_the_wrong_place(self):
        for index, separator in ((0, 4), (0, 6), (1, 6), (1, 9), (3, 15), (3, 20)):
            with self.assertRaises(Broken):
                with_child(INNER, index, separator, 9)
        for index, separator in ((1, 4), (1, 9), (2, 6), (2, 15), (3, 9), (3, 20)):
            with self.assertRaises(Broken):
                with_separator(INNER, index, separator)


class CutTest(unittest.TestCase):
    def test_leaves(self):
        record = ("leaf", None, None, (1, 2, 3, 4, 5), (10, 20, 30, 40, 50))
        self.assertEqual(cut(record), (
            ("leaf", None, 4, (1, 2, 3), (10, 20, 30)), 4, ("leaf", 4, None, (4, 5), (40, 50))))
        record = ("leaf", 0, 99, (1, 2, 3, 4, 5, 90), (10, 20, 30, 40, 50, 60))
        self.assertEqual(cut(record), (
            ("leaf", 0, 4, (1, 2, 3), (10, 20, 30)), 4,
            ("leaf", 4, 99, (4, 5, 90), (40, 50, 60))))

    def test_inner_nodes(self):
        record = ("inner", 1, None, None, (1, 2, 3, 4, 5), (9, 8, 7, 6, 5, 4))
        self.assertEqual(cut(record), (
            ("inner", 1, None, 3, (1, 2), (9, 8, 7)), 3,
            ("inner", 1, 3, None, (4, 5), (6, 5, 4))))
        record = ("inner", 3, 0, 99, (1, 2, 3, 4, 5, 6), (9, 8, 7, 6, 5, 4, 3))
        self.assertEqual(cut(record), (
            ("inner", 3, 0, 4, (1, 2, 3), (9, 8, 7, 6)), 4,
            ("inner", 3, 4, 99, (5, 6), (5, 4, 3))))

    def test_even_and_odd_numbers(self):
        for many in range(5, 14):
            keys = [key * HUGE for key in range(many)]
            first, separator, second = cut(leaf(-1, None, keys, range_list(many)))
            self.assertEqual((size_of(first), size_of(second)), ((many + 1) // 2, many // 2))
            self.assertEqual(separator, second[3][0])
            self.assertEqual((bounds_of(first), bounds_of(second)),
                             ((-1, separator), (separator, None)))
            self.assertEqual(list(first[3] + second[3]), keys)
            self.assertEqual(first[4] + second[4], tuple(range(many)))

    def test_even_and_odd_numbers_of_pages(self):
        for many in range(6, 15):
            keys = [key * HUGE for key in range(many - 1)]
            first, separator, second = cut(inner(2, None, HUGE ** 2, keys, range_list(many)))
            self.assertEqual((size_of(first), size_of(second)), ((many + 1) // 2, many // 2))
            self.assertEqual((bounds_of(first), bounds_of(second)),
                             ((None, separator), (separator, HUGE ** 2)))
            self.assertEqual(list(first[4]) + [separator] + list(second[4]), keys)
            self.assertEqual(first[5] + second[5], tuple(range(many)))
            self.assertEqual((level_of(first), level_of(second)), (2, 2))

    def test_the_smallest_that_can_be_cut(self):
        self.assertEqual(cut(("leaf", None, None, (1, 2), (10, 20))), (
            ("leaf", None, 2, (1,), (10,)), 2, ("leaf", 2, None, (2,), (20,))))
        self.assertEqual(cut(("inner", 1, None, None, (4,), (1, 2))), (
            ("inner", 1, None, 4, (), (1,)), 4, ("inner", 1, 4, None, (), (2,))))


class JoinedTest(unittest.TestCase):
    def test_leaves(self):
        first = ("leaf", None, 4, (1,), (10,))
        second = ("leaf", 4, 9, (4, 7), (40, 70))
        self.assertEqual(joined(first, 4, second), ("leaf", None, 9, (1, 4, 7), (10, 40, 70)))

    def test_the_separator_of_leaves_need_not_be_a_key(self):
        first = ("leaf", 0, 5, (1, 2), (10, 20))
        second = ("leaf", 5, None, (8,), (80,))
        self.assertEqual(joined(first, 5, second), ("leaf", 0, None, (1, 2, 8), (10, 20, 80)))

    def test_leaves_without_keys(self):
        first, second = ("leaf", None, 5, (), ()), ("leaf", 5, None, (), ())
        self.assertEqual(joined(first, 5, second), EMPTY)
        self.assertEqual(joined(first, 5, ("leaf", 5, 9, (7,), (70,))),
                         ("leaf", None, 9, (7,), (70,)))
        self.assertEqual(joined(("leaf", 2, 5, (3,), (30,)), 5, second),
                         ("leaf", 2, None, (3,), (30,)))

    def test_inner_nodes(self):
        first = ("inner", 2, None, 6, (3,), (1, 2))
        second = ("inner", 2, 6, 20, (9, 15), (3, 4, 5))
        self.assertEqual(joined(first, 6, second),
                         ("inner", 2, None, 20, (3, 6, 9, 15), (1, 2, 3, 4, 5)))

    def test_inner_nodes_with_one_page(self):
        first, second = ("inner", 1, 0, 6, (), (1,)), ("inner", 1, 6, 9, (), (2,))
        self.assertEqual(joined(first, 6, second), ("inner", 1, 0, 9, (6,), (1, 2)))
        self.assertEqual(joined(first, 6, ("inner", 1, 6, None, (7,), (2, 3))),
                         ("inner", 1, 0, None, (6, 7), (1, 2, 3)))

    def test_too_many(self):
        first = leaf(None, 10, range_list(4), range_list(4))
        second = leaf(10, None, [10, 11, 12, 13], range_list(4))
        self.assertEqual(size_of(joined(first, 10, second)), 8)
        first = inner(1, None, 10, range_list(4), range_list(5))
        second = inner(1, 10, None, [11, 12, 13, 14], range_list(5))
        self.assertEqual(size_of(joined(first, 10, second)), 10)

    def test_cut_and_joined_again(self):
        for many in range(5, 14):
            for low, high in ((None, None), (-1, None), (None, HUGE), (-HUGE, HUGE)):
                record = leaf(low, high, range_list(many), range_list(many))
                self.assertEqual(joined(*cut(record)), record)
                record = inner(2, low, high, range_list(many - 1), range_list(many))
                self.assertEqual(joined(*cut(record)), record)


class AllTest(unittest.TestCase):
    def test_what_is_made_is_a_record(self):
        for record in (
                with_value(LEAF, 6, 1), without_key(LEAF, 5), with_child(INNER, 0, 5, 9),
                without_child(INNER, 1), with_separator(INNER, 1, 5),
                *cut(with_value(LEAF, 6, 1))[::2], *cut(INNER)[::2],
                joined(*cut(LEAF)), joined(*cut(INNER))):
            self.assertIs(is_record(record), True, record)

    def test_what_is_passed_stays(self):
        with_value(LEAF, 6, 1)
        without_key(LEAF, 5)
        cut(LEAF)
        with_child(INNER, 0, 5, 9)
        without_child(INNER, 1)
        with_separator(INNER, 1, 5)
        cut(INNER)
        self.assertEqual(LEAF, ("leaf", 5, 20, (5, 8, 12), (50, 80, 120)))
        self.assertEqual(INNER, ("inner", 2, 4, 20, (6, 9, 15), (7, 3, 5, 1)))


if __name__ == "__main__":
    unittest.main()
