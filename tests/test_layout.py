"""Points [5] and [7]: the layout, and what a new memory holds."""

import unittest

from espalier.errors import NotValid
from espalier.memory import Layout, Memory
from tests.scripts import all_cells

LEAF = ("leaf", None, None, (), ())


class LayoutBoundsTest(unittest.TestCase):
    def refused(self, threads, pages, records):
        with self.assertRaises(NotValid):
            Layout(threads, pages, records)

    def test_threads(self):
        for threads in (1, 2, 3, 4):
            self.assertEqual(Layout(threads, 2, 2).threads, threads)
        for threads in (-1, 0, 5, 6, 100):
            self.refused(threads, 2, 2)

    def test_pages(self):
        for pages in (2, 3, 47, 48):
            self.assertEqual(Layout(1, pages, 48).pages, pages)
        for pages in (-2, 0, 1, 49, 50):
            self.refused(1, pages, 60)

    def test_records(self):
        for pages in (2, 4, 48):
            for more in (0, 1, 1000):
                layout = Layout(4, pages, pages + more)
                self.assertEqual(layout.records, pages + more)
            self.refused(4, pages, pages - 1)
            self.refused(4, pages, 0)
            self.refused(4, pages, -pages)

    def test_only_integers(self):
        for other in (None, "2", True, (2,), [2]):
            self.refused(other, 2, 2)
            self.refused(1, other, 2)
            self.refused(1, 2, other)

    def test_fields(self):
        layout = Layout(3, 7, 19)
        found = (layout.threads, layout.pages, layout.records)
        self.assertEqual(found, (3, 7, 19))


class LayoutCellsTest(unittest.TestCase):
    def test_the_example(self):
        layout = Layout(2, 4, 40)
        self.assertEqual(layout.word(0), 5)
        self.assertEqual(layout.record(0), 9)
        self.assertEqual(layout.cells(), 49)

    def test_the_slots_are_cells_1_to_4(self):
        for threads in (1, 2, 3, 4):
            layout = Layout(threads, 48, 400)
            found = [layout.slot(thread) for thread in range(threads)]
            self.assertEqual(found, [1, 2, 3, 4][:threads])

    def test_every_cell_has_one_purpose_whatever_the_threads(self):
        for threads in (1, 2, 3, 4):
            for pages, records in ((2, 2), (2, 3), (4, 40), (48, 48), (48, 400)):
                layout = Layout(threads, pages, records)
                words = [layout.word(page) for page in range(pages)]
                cells = [layout.record(index) for index in range(records)]
                self.assertEqual(words, list(range(5, 5 + pages)))
                first = 5 + pages
                self.assertEqual(cells, list(range(first, first + records)))
                self.assertEqual(layout.cells(), first + records)

    def test_is_record(self):
        layout = Layout(2, 4, 40)
        for cell in (-1, 0, 1, 4, 5, 8, 49, 50):
            self.assertIs(layout.is_record(cell), False, cell)
        for cell in (9, 10, 12, 13, 47, 48):
            self.assertIs(layout.is_record(cell), True, cell)

    def test_is_record_in_small_and_large_layouts(self):
        for threads, pages, records in ((1, 2, 2), (4, 48, 48), (3, 48, 400)):
            layout = Layout(threads, pages, records)
            found = [c for c in range(-3, 600) if layout.is_record(c)]
            self.assertEqual(found, [layout.record(i) for i in range(records)])


class NewMemoryTest(unittest.TestCase):
    def test_two_pages_and_no_other_record_cell(self):
        expected = [0, None, None, None, None, 7, 8, LEAF, ("free", 1)]
        for threads in (1, 2, 3, 4):
            self.assertEqual(all_cells(Memory(Layout(threads, 2, 2))), expected)

    def test_three_pages_and_two_other_record_cells(self):
        expected = [0, None, None, None, None, 8, 9, 10,
                    LEAF, ("free", 1), ("free", 2), None, None]
        self.assertEqual(all_cells(Memory(Layout(4, 3, 5))), expected)

    def test_many_layouts(self):
        for threads, pages, records in ((1, 4, 20), (2, 4, 40), (3, 48, 48), (4, 48, 400)):
            layout = Layout(threads, pages, records)
            memory = Memory(layout)
            self.assertEqual(memory.peek(0), 0)
            for slot in (1, 2, 3, 4):
                self.assertIsNone(memory.peek(slot))
            self.assertEqual(memory.peek(5), 5 + pages)
            self.assertEqual(memory.peek(5 + pages), LEAF)
            for page in range(1, pages):
                self.assertEqual(memory.peek(5 + page), 5 + pages + page)
                self.assertEqual(memory.peek(5 + pages + page), ("free", page))
            for cell in range(5 + 2 * pages, 5 + pages + records):
                self.assertIsNone(memory.peek(cell))

    def test_fields_and_log(self):
        layout = Layout(1, 2, 2)
        memory = Memory(layout)
        self.assertIs(memory.layout, layout)
        self.assertEqual(memory.count, 0)
        self.assertEqual(memory.log(), [])

    def test_memories_of_one_layout_are_apart(self):
        layout = Layout(1, 2, 2)
        one = Memory(layout)
        other = Memory(layout)
        one.access(0, ("write", 0, 7))
        self.assertEqual((one.peek(0), other.peek(0)), (7, 0))
        self.assertEqual((one.count, other.count), (1, 0))
        self.assertEqual(other.log(), [])


if __name__ == "__main__":
    unittest.main()
