"""Points [26] and [27]: what is a record, and what is none."""

import unittest

from espalier import nodes
from espalier.errors import Broken
from espalier.nodes import inner, is_record, leaf

HUGE = 10 ** 20

LEAVES = (
    ("leaf", None, None, (), ()),
    ("leaf", None, None, (7,), (70,)),
    ("leaf", None, 5, (1, 3), (10, 30)),
    ("leaf", 5, None, (5, 6), (50, 50)),
    ("leaf", 5, 9, (5, 6, 7, 8), (0, -1, HUGE, -HUGE)),
    ("leaf", 5, 6, (5,), (50,)),
    ("leaf", 0, 1, (), ()),
    ("leaf", 0, 1, (0,), (0,)),
    ("leaf", -3, 0, (-3, -1), (1, 2)),
    ("leaf", -HUGE, HUGE, (-HUGE, HUGE - 1), (1, 2)),
    ("leaf", None, None, (1, 2, 3, 4, 5), (1, 2, 3, 4, 5)),
    ("leaf", None, None, tuple(range(40)), tuple(range(40))),
)
INNERS = (
    ("inner", 1, None, None, (5,), (1, 2)),
    ("inner", 1, None, None, (), (3,)),
    ("inner", 1, 0, 1, (), (0,)),
    ("inner", 2, 4, 7, (5, 6), (1, 2, 3)),
    ("inner", 7, None, 4, (1, 2, 3), (4, 3, 2, 1)),
    ("inner", 1, 4, None, (5, HUGE), (1, 2, 3)),
    ("inner", HUGE, -HUGE, HUGE, (0,), (HUGE, -HUGE)),
    ("inner", 1, None, None, (4,), (-1, -2)),
    ("inner", 1, None, None, (4, 5), (2, 2, 2)),
    ("inner", 1, None, None, (1, 2, 3, 4, 5), (1, 2, 3, 4, 5, 6)),
)
FREE = (("free", 0), ("free", 3), ("free", -1), ("free", HUGE))

# Records but for one thing.
NOT_LEAVES = (
    ("leaf", None, None, (1, 1), (0, 0)),
    ("leaf", None, None, (2, 1), (0, 0)),
    ("leaf", None, None, (1, 2, 3, 3), (0, 0, 0, 0)),
    ("leaf", None, None, (1, 3, 2, 4), (0, 0, 0, 0)),
    ("leaf", None, None, (HUGE, HUGE), (0, 0)),
    ("leaf", None, None, (1, 2), (0,)),
    ("leaf", None, None, (1,), (0, 0)),
    ("leaf", None, None, (), (0,)),
    ("leaf", None, None, (1,), ()),
    ("leaf", 5, 9, (4, 6), (0, 0)),
    ("leaf", 5, 9, (5, 9), (0, 0)),
    ("leaf", 5, 9, (5, 10), (0, 0)),
    ("leaf", 5, None, (4,), (0,)),
    ("leaf", None, 5, (5,), (0,)),
    ("leaf", 5, 5, (), ()),
    ("leaf", 5, 5, (5,), (0,)),
    ("leaf", 6, 5, (), ()),
    ("leaf", HUGE, HUGE, (), ()),
    ("leaf", None, HUGE, (HUGE,), (0,)),
    ("leaf", HUGE, None, (HUGE - 1,), (0,)),
    ("leaf", None, None, (True,), (0,)),
    ("leaf", None, None, (1,), (False,)),
    ("leaf", None, None, (1, None), (0, 0)),
    ("leaf", None, None, (1, 2), (0, None)),
    ("leaf", None, None, (1, "2"), (0, 0)),
    ("leaf", None, None, (1, (2,)), (0, 0)),
    ("leaf", None, None, (1, 2.5), (0, 0)),
    ("leaf", None, None, (1,), ([],)),
    ("leaf", None, None, [1], (0,)),
    ("leaf", None, None, (1,), [0]),
    ("leaf", None, None, [], []),
    ("leaf", None, None, "", ""),
    ("leaf", None, None, {}, {}),
    ("leaf", True, None, (), ()),
    ("leaf", False, None, (1,), (0,)),
    ("leaf", None, True, (0,), (0,)),
    ("leaf", None, 7.5, (), ()),
    ("Leaf", None, None, (), ()),
    ("leaf ", None, None, (), ()),
    (b"leaf", None, None, (), ()),
    ("inner", None, None, (), ()),
    ("leaf", 1, None, None, (), ()),
)
NOT_INNERS = (
    ("inner", 0, None, None, (5,), (1, 2)),
    ("inner", -1, None, None, (5,), (1, 2)),
    ("inner", True, None, None, (5,), (1, 2)),
    ("inner", None, None, None, (5,), (1, 2)),
    ("inner", "1", None, None, (5,), (1, 2)),
    ("inner", 1.0, None, None, (5,), (1, 2)),
    ("inner", 1, None, None, (5,), (1,)),
    ("inner", 1, None, None, (5,), (1, 2, 3)),
    ("inner", 1, None, None, (), ()),
    ("inner", 1, None, None, (), (1, 2)),
    ("inner", 1, None, None, (5, 5), (1, 2, 3)),
    ("inner", 1, None, None, (6, 5), (1, 2, 3)),
    ("inner", 1, 5, None, (5,), (1, 2)),
    ("inner", 1, 5, None, (4,), (1, 2)),
    ("inner", 1, 5, 8, (5, 6), (1, 2, 3)),
    ("inner", 1, None, 5, (5,), (1, 2)),
    ("inner", 1, None, 5, (6,), (1, 2)),
    ("inner", 1, 4, 8, (6, 8), (1, 2, 3)),
    ("inner", 1, 5, 5, (), (1,)),
    ("inner", 1, 6, 5, (), (1,)),
    ("inner", 1, HUGE, None, (HUGE,), (1, 2)),
    ("inner", 1, None, HUGE, (HUGE,), (1, 2)),
    ("inner", 1, None, None, (True,), (1, 2)),
    ("inner", 1, None, None, (5,), (1, True)),
    ("inner", 1, None, None, (5,), (False, 1)),
    ("inner", 1, None, None, (None,), (1, 2)),
    ("inner", 1, None, None, (5,), (1, None)),
    ("inner", 1, None, None, (5,), ("1", 2)),
    ("inner", 1, None, None, (5,), (1, (2,))),
    ("inner", 1, None, None, [5], (1, 2)),
    ("inner", 1, None, None, (5,), [1, 2]),
    ("inner", 1, None, None, "", "1"),
    ("inner", 1, False, None, (5,), (1, 2)),
    ("inner", 1, None, True, (), (1,)),
    ("leaf", 1, None, None, (5,), (1, 2)),
)
NOT_FREE = (
    ("free",), ("free", None), ("free", True), ("free", False), ("free", "3"),
    ("free", 3.0), ("free", (3,)), ("free", 3, 3), ("free", 3, None), ("Free", 3), (3, "free"),
)


class Odd:
    """No value of a cell at all."""


class ConstantsTest(unittest.TestCase):
    def test_the_numbers(self):
        self.assertEqual((nodes.LEAF_MOST, nodes.INNER_MOST, nodes.LEAST), (4, 5, 2))


class IsRecordTest(unittest.TestCase):
    def test_records(self):
        for record in LEAVES + INNERS + FREE:
            self.assertIs(is_record(record), True, record)

    def test_records_but_for_one_thing(self):
        for value in NOT_LEAVES + NOT_INNERS + NOT_FREE:
            self.assertIs(is_record(value), False, value)

    def test_values_of_all_kinds(self):
        for value in (
                None, True, False, 0, 1, -1, HUGE, "", "leaf", "free", b"", b"leaf", (), [], {},
                set(), 1.5, Odd(), Odd, len, (None,), (True,), (0,), ("",), ("leaf",),
                ("inner",), ((),), ([],), ({},), ((("leaf", None, None, (), ()),),),
                (60, 61, 55, 62), ("deed", 61, ((5, 53, 62),)), ("done", 17), range(5)):
            self.assertIs(is_record(value), False, value)

    def test_lists_are_no_records(self):
        for record in LEAVES + INNERS + FREE:
            self.assertIs(is_record(list(record)), False)

    def test_a_part_left_out_or_added(self):
        for record in LEAVES + INNERS + FREE:
            for at in range(len(record)):
                self.assertIs(is_record(record[:at] + record[at + 1:]), False, (record, at))
                for part in (None, 0, (), record[at]):
                    spoiled = record[:at] + (part,) + record[at:]
                    self.assertIs(is_record(spoiled), False, spoiled)
            self.assertIs(is_record(record + (None,)), False)
            self.assertIs(is_record(record + ((),)), False)

    def test_a_part_replaced(self):
        for record in LEAVES + INNERS + FREE:
            for at, part in enumerate(record):
                for other in (True, False, "", "x", "leaf", [], [1], list(range(5)), {}, 1.5,
                              Odd()):
                    if other != part or other == 1:
                        spoiled = record[:at] + (other,) + record[at + 1:]
                        self.assertIs(is_record(spoiled), False, spoiled)

    def test_a_part_replaced_by_none_or_by_an_integer(self):
        # Of these a bound may become None, and a number another number.
        for record in LEAVES + INNERS + FREE:
            for at in range(len(record)):
                bound = at in {"leaf": (1, 2), "inner": (2, 3), "free": ()}[record[0]]
                number = at in {"leaf": (), "inner": (1,), "free": (1,)}[record[0]]
                spoiled = record[:at] + (None,) + record[at + 1:]
                self.assertIs(is_record(spoiled), bound, spoiled)
                if not bound:
                    spoiled = record[:at] + (12,) + record[at + 1:]
                    self.assertIs(is_record(spoiled), number, spoiled)

    def test_bounds_replaced(self):
        record = ("leaf", 5, 9, (5, 8), (0, 0))
        for low in range(12):
            spoiled = record[:1] + (low,) + record[2:]
            self.assertIs(is_record(spoiled), low <= 5, spoiled)
        for high in range(12):
            spoiled = record[:2] + (high,) + record[3:]
            self.assertIs(is_record(spoiled), high >= 9, spoiled)
        record = ("inner", 1, 4, 9, (5, 8), (1, 2, 3))
        for low in range(12):
            spoiled = record[:2] + (low,) + record[3:]
            self.assertIs(is_record(spoiled), low < 5, spoiled)
        for high in range(12):
            spoiled = record[:3] + (high,) + record[4:]
            self.assertIs(is_record(spoiled), high > 8, spoiled)

    def test_each_key_value_and_page_replaced(self):
        for record in LEAVES + INNERS:
            for at in (len(record) - 2, len(record) - 1):
                for index in range(len(record[at])):
                    for other in (None, True, False, "1", (1,), [1], 1.5):
                        row = record[at][:index] + (other,) + record[at][index + 1:]
                        spoiled = record[:at] + (row,) + record[at + 1:]
                        self.assertIs(is_record(spoiled), False, spoiled)

    def test_nothing_is_changed(self):
        value = ["leaf", None, None, [1], [0]]
        is_record(value)
        is_record(tuple(value))
        self.assertEqual(value, ["leaf", None, None, [1], [0]])


class LeafTest(unittest.TestCase):
    def test_tuples_and_lists(self):
        for record in LEAVES:
            _, low, high, keys, values = record
            for one in (tuple, list):
                for other in (tuple, list):
                    made = leaf(low, high, one(keys), other(values))
                    self.assertEqual(made, record)
                    self.assertIs(is_record(made), True)

    def test_what_is_no_leaf(self):
        for value in NOT_LEAVES:
            if len(value) == 5 and value[0] == "leaf":
                _, low, high, keys, values = value
                if isinstance(keys, list) or isinstance(values, list):
                    continue
                with self.assertRaises(Broken):
                    leaf(low, high, keys, values)
                if isinstance(keys, tuple):
                    with self.assertRaises(Broken):
                        leaf(low, high, list(keys), list(values))

    def test_keys_and_values_of_other_kinds(self):
        for keys, values in (
                (None, ()), ((), None), (None, None), (1, 1), ((1,), 1), (1, (1,)),
                ("", ""), ("1", (1,)), ((), {}), (set(), ()), (range(1), (1,)), ((1,), b"1")):
            with self.assertRaises(Broken):
                leaf(None, None, keys, values)

    def test_the_numbers_do_not_matter(self):
        for many in (0, 1, 2, 4, 5, 50):
            made = leaf(None, None, list(range(many)), [7] * many)
            self.assertEqual(made, ("leaf", None, None, tuple(range(many)), (7,) * many))

    def test_lists_stay_and_may_be_changed(self):
        keys, values = [1, 2], [10, 20]
        made = leaf(0, 3, keys, values)
        self.assertEqual((keys, values), ([1, 2], [10, 20]))
        keys.append(3)
        values.clear()
        self.assertEqual(made, ("leaf", 0, 3, (1, 2), (10, 20)))
        with self.assertRaises(Broken):
            leaf(0, 3, keys, values)
        self.assertEqual((keys, values), ([1, 2, 3], []))


class InnerTest(unittest.TestCase):
    def test_tuples_and_lists(self):
        for record in INNERS:
            _, level, low, high, keys, pages = record
            for one in (tuple, list):
                for other in (tuple, list):
                    made = inner(level, low, high, one(keys), other(pages))
                    self.assertEqual(made, record)
                    self.assertIs(is_record(made), True)

    def test_what_is_no_inner_node(self):
        for value in NOT_INNERS:
            if value[0] == "inner":
                _, level, low, high, keys, pages = value
                if isinstance(keys, list) or isinstance(pages, list):
                    continue
                with self.assertRaises(Broken):
                    inner(level, low, high, keys, pages)
                if isinstance(keys, tuple):
                    with self.assertRaises(Broken):
                        inner(level, low, high, list(keys), list(pages))

    def test_keys_and_pages_of_other_kinds(self):
        for keys, pages in (
                (None, (1,)), ((), None), (None, None), (1, 1), ((5,), 2), (5, (1, 2)),
                ("", (1,)), ((), "1"), ({}, (1,)), ((), {1: 1}), ((), range(1))):
            with self.assertRaises(Broken):
                inner(1, None, None, keys, pages)

    def test_the_numbers_do_not_matter(self):
        for many in (1, 2, 5, 6, 50):
            made = inner(3, None, None, list(range(many - 1)), list(range(many)))
            self.assertEqual(made, (
                "inner", 3, None, None, tuple(range(many - 1)), tuple(range(many))))

    def test_lists_stay_and_may_be_changed(self):
        keys, pages = [5], [1, 2]
        made = inner(1, None, 9, keys, pages)
        self.assertEqual((keys, pages), ([5], [1, 2]))
        keys.append(6)
        pages.reverse()
        self.assertEqual(made, ("inner", 1, None, 9, (5,), (1, 2)))


if __name__ == "__main__":
    unittest.main()
