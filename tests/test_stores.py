"""Points [21], [22] and [25]: what a thread has, and what waits."""

import unittest

from espalier.epochs import Store
from espalier.memory import Layout


def state_of_store(store):
    return (store.free_cells(), store.free_pages(), store.waiting())


class FirstTest(unittest.TestCase):
    def test_one_thread_has_everything(self):
        store = Store(Layout(1, 4, 8), 0)
        self.assertEqual(store.free_cells(), [13, 14, 15, 16])
        self.assertEqual(store.free_pages(), [(1, 10), (2, 11), (3, 12)])
        self.assertEqual(store.waiting(), [])

    def test_two_threads(self):
        layout = Layout(2, 5, 10)
        one, other = Store(layout, 0), Store(layout, 1)
        # The record cells begin with cell 10; index 5 belongs to thread 1.
        self.assertEqual(one.free_cells(), [16, 18])
        self.assertEqual(other.free_cells(), [15, 17, 19])
        self.assertEqual(one.free_pages(), [(2, 12), (4, 14)])
        self.assertEqual(other.free_pages(), [(1, 11), (3, 13)])

    def test_three_threads(self):
        layout = Layout(3, 4, 10)
        stores = [Store(layout, thread) for thread in range(3)]
        self.assertEqual([store.free_cells() for store in stores],
                         [[15, 18], [13, 16], [14, 17]])
        self.assertEqual([store.free_pages() for store in stores],
                         [[(3, 12)], [(1, 10)], [(2, 11)]])

    def test_four_threads_of_a_large_layout(self):
        layout = Layout(4, 48, 400)
        for thread in range(4):
            store = Store(layout, thread)
            self.assertEqual(store.free_cells(), [
                53 + index for index in range(48, 400) if index % 4 == thread])
            self.assertEqual(store.free_pages(), [
                (page, 53 + page) for page in range(1, 48) if page % 4 == thread])
            self.assertEqual(store.waiting(), [])

    def test_everything_belongs_to_one_thread(self):
        for threads in range(1, 5):
            for pages, records in ((2, 2), (2, 3), (7, 7), (7, 30), (48, 61)):
                layout = Layout(threads, pages, records)
                stores = [Store(layout, thread) for thread in range(threads)]
                cells = [cell for store in stores for cell in store.free_cells()]
                self.assertEqual(sorted(cells), [
                    layout.record(index) for index in range(pages, records)])
                rows = [row for store in stores for row in store.free_pages()]
                self.assertEqual(sorted(rows), [
                    (page, layout.record(page)) for page in range(1, pages)])

    def test_threads_without_anything(self):
        layout = Layout(4, 2, 2)
        self.assertEqual([Store(layout, thread).free_pages() for thread in range(4)],
                         [[], [(1, 8)], [], []])
        for thread in range(4):
            self.assertEqual(Store(layout, thread).free_cells(), [])

    def test_the_fields(self):
        layout = Layout(3, 4, 10)
        store = Store(layout, 2)
        self.assertIs(store.layout, layout)
        self.assertEqual(store.thread, 2)


class StoreCase(unittest.TestCase):
    def setUp(self):
        self.store = Store(Layout(1, 4, 8), 0)


class TakeTest(StoreCase):
    def test_the_least_ones(self):
        self.assertEqual(self.store.take(2, 1), ([13, 14], [(1, 10)]))
        self.assertEqual(self.store.free_cells(), [15, 16])
        self.assertEqual(self.store.free_pages(), [(2, 11), (3, 12)])
        self.assertEqual(self.store.take(1, 2), ([15], [(2, 11), (3, 12)]))
        self.assertEqual(state_of_store(self.store), ([16], [], []))

    def test_none_of_one_or_of_both(self):
        self.assertEqual(self.store.take(0, 0), ([], []))
        self.assertEqual(self.store.take(0, 1), ([], [(1, 10)]))
        self.assertEqual(self.store.take(1, 0), ([13], []))
        self.assertEqual(state_of_store(self.store), ([14, 15, 16], [(2, 11), (3, 12)], []))

    def test_all(self):
        self.assertEqual(self.store.take(4, 3),
                         ([13, 14, 15, 16], [(1, 10), (2, 11), (3, 12)]))
        self.assertEqual(state_of_store(self.store), ([], [], []))
        self.assertEqual(self.store.take(0, 0), ([], []))
        self.assertIsNone(self.store.take(1, 0))
        self.assertIsNone(self.store.take(0, 1))

    def test_one_more_than_there_are(self):
        before = state_of_store(self.store)
        for cells, pages in ((5, 0), (0, 4), (5, 4), (5, 3), (4, 4), (400, 0), (0, 48)):
            self.assertIsNone(self.store.take(cells, pages))
            self.assertEqual(state_of_store(self.store), before)
        self.assertEqual(self.store.take(4, 3)[0], [13, 14, 15, 16])

    def test_the_kinds_of_what_is_returned(self):
        taken = self.store.take(2, 2)
        self.assertIsInstance(taken, tuple)
        self.assertIsInstance(taken[0], list)
        self.assertIsInstance(taken[1], list)
        self.assertIsInstance(taken[1][0], tuple)

    def test_what_is_returned_is_the_caller_s(self):
        cells, pages = self.store.take(2, 1)
        free_cells, free_pages = self.store.free_cells(), self.store.free_pages()
        for row in (cells, pages, free_cells, free_pages):
            row.reverse()
            row.append(7)
        self.assertEqual(state_of_store(self.store), ([15, 16], [(2, 11), (3, 12)], []))
        self.assertEqual(self.store.take(2, 2), ([15, 16], [(2, 11), (3, 12)]))

    def test_stores_share_nothing(self):
        other = Store(self.store.layout, 0)
        self.store.take(4, 3)
        self.store.take_out([9])
        self.assertEqual(other.free_cells(), [13, 14, 15, 16])
        self.assertEqual(other.waiting(), [])


class GiveBackTest(StoreCase):
    def test_what_was_taken(self):
        before = state_of_store(self.store)
        cells, pages = self.store.take(3, 2)
        self.store.give_back(cells, pages)
        self.assertEqual(state_of_store(self.store), before)

    def test_in_any_order_and_one_by_one(self):
        self.store.take(4, 3)
        self.store.give_back([15, 13], [(3, 12)])
        self.assertEqual(state_of_store(self.store), ([13, 15], [(3, 12)], []))
        self.store.give_back([14], [(2, 11), (1, 10)])
        self.assertEqual(state_of_store(self.store),
                         ([13, 14, 15], [(1, 10), (2, 11), (3, 12)], []))
        self.assertEqual(self.store.take(1, 1), ([13], [(1, 10)]))

    def test_nothing(self):
        before = state_of_store(self.store)
        self.store.give_back([], [])
        self.assertEqual(state_of_store(self.store), before)

    def test_a_page_with_another_mark_address(self):
        self.store.take(2, 2)
        self.store.give_back([], [(2, 14)])
        self.assertEqual(self.store.free_pages(), [(2, 14), (3, 12)])
        self.assertEqual(self.store.take(0, 1), ([], [(2, 14)]))

    def test_a_page_of_another_thread(self):
        # A page that became free goes to the thread whose call made it free.
        store = Store(Layout(2, 5, 10), 0)
        store.give_back([], [(1, 17)])
        self.assertEqual(store.free_pages(), [(1, 17), (2, 12), (4, 14)])

    def test_what_was_passed_stays_and_may_be_changed(self):
        self.store.take(4, 3)
        cells, pages = [16, 13], [(3, 12), (1, 10)]
        self.store.give_back(cells, pages)
        self.assertEqual((cells, pages), ([16, 13], [(3, 12), (1, 10)]))
        cells.append(15)
        pages.clear()
        self.assertEqual(state_of_store(self.store), ([13, 16], [(1, 10), (3, 12)], []))
        self.store.take(2, 2)
        self.assertEqual((cells, pages), ([16, 13, 15], []))

    def test_what_was_passed_to_an_empty_store(self):
        self.store.take(4, 3)
        cells, pages = [13], [(1, 10)]
        self.store.give_back(cells, pages)
        cells.append(14)
        pages.append((2, 11))
        self.assertEqual(state_of_store(self.store), ([13], [(1, 10)], []))

    def test_it_returns_none(self):
        self.assertIsNone(self.store.give_back([], []))


class TakeOutTest(StoreCase):
    def test_cells_wait_without_a_stamp(self):
        free = (self.store.free_cells(), self.store.free_pages())
        self.store.take_out([9, 12])
        self.assertEqual(self.store.waiting(), [(None, [9, 12])])
        self.assertEqual((self.store.free_cells(), self.store.free_pages()), free)

    def test_more_of_the_same_call(self):
        self.store.take_out([12])
        self.store.take_out([9, 10])
        self.assertEqual(self.store.waiting(), [(None, [12, 9, 10])])

    def test_nothing_was_taken_out(self):
        self.store.take_out([])
        self.assertEqual(self.store.waiting(), [])
        self.store.take_out([9])
        self.store.take_out([])
        self.assertEqual(self.store.waiting(), [(None, [9])])

    def test_what_was_passed_stays_and_may_be_changed(self):
        one, other = [9], [12]
        self.store.take_out(one)
        self.store.take_out(other)
        self.assertEqual((one, other), ([9], [12]))
        one.append(7)
        other.clear()
        self.assertEqual(self.store.waiting(), [(None, [9, 12])])

    def test_what_was_returned_may_be_changed(self):
        self.store.take_out([9, 12])
        rows = self.store.waiting()
        rows[0][1].append(7)
        rows.append((3, [8]))
        self.assertEqual(self.store.waiting(), [(None, [9, 12])])

    def test_what_waits_is_not_taken(self):
        self.store.take(4, 3)
        self.store.take_out([9])
        self.assertIsNone(self.store.take(1, 0))
        self.assertEqual(state_of_store(self.store), ([], [], [(None, [9])]))

    def test_it_returns_none(self):
        self.assertIsNone(self.store.take_out([9]))


if __name__ == "__main__":
    unittest.main()
