"""Points [19], [20], [22] to [25]: entering and leaving."""

import random
import unittest

from espalier.epochs import Entering, Leaving, Store
from espalier.machines import Stack
from espalier.memory import Layout, Memory
from tests.scripts import all_cells, is_steady, play_alone, put


class EpochCase(unittest.TestCase):
    def begin(self, threads, epoch=0):
        self.memory = Memory(Layout(threads, 4, 20))
        self.stores = [Store(self.memory.layout, thread) for thread in range(threads)]
        put(self.memory, 0, epoch)

    def enter(self, thread):
        return play_alone(self.memory, Entering(self.stores[thread]), thread)

    def leave(self, thread):
        return play_alone(self.memory, Leaving(self.stores[thread]), thread)

    def call(self, thread, cells):
        """A call that takes cells out."""
        self.enter(thread)
        self.stores[thread].take_out(cells)
        return self.leave(thread)

    def epoch(self):
        return self.memory.peek(0)

    def slots(self):
        return [self.memory.peek(cell) for cell in range(1, 5)]


class EnteringTest(EpochCase):
    def test_alone(self):
        for threads in range(1, 5):
            for thread in range(threads):
                for epoch in (0, 1, 7, 10 ** 20):
                    self.begin(threads, epoch)
                    wanted = all_cells(self.memory)
                    value, made = self.enter(thread)
                    self.assertEqual(value, epoch)
                    self.assertEqual(made, [
                        ("read", 0), ("write", 1 + thread), ("read", 0)])
                    wanted[1 + thread] = epoch
                    self.assertEqual(all_cells(self.memory), wanted)

    def enter_among(self, moves):
        """Enter while another thread moves the epoch behind these accesses."""
        self.begin(2, 5)
        stack = Stack(Entering(self.stores[1]))
        slots = []
        before = self.memory.count
        while not stack.ended():
            stack.step(self.memory, 1)
            slots.append(self.slots()[1])
            for _ in range(moves.count(len(slots))):
                epoch = self.epoch()
                self.memory.access(0, ("swap", 0, epoch, epoch + 1))
        made = [row[2:] for row in self.memory.log()[before:] if row[1] == 1]
        return stack.value(), made, slots

    def test_the_epoch_moves_on_behind_the_first_reading(self):
        value, made, slots = self.enter_among([1])
        self.assertEqual(value, 6)
        self.assertEqual(made, [("read", 0), ("write", 2), ("read", 0), ("write", 2), ("read", 0)])
        self.assertEqual(slots, [None, 5, 5, 6, 6])

    def test_the_epoch_moves_on_behind_the_writing(self):
        value, made, slots = self.enter_among([2])
        self.assertEqual((value, len(made), slots), (6, 5, [None, 5, 5, 6, 6]))

    def test_the_epoch_moves_on_several_times(self):
        value, made, slots = self.enter_among([1, 1, 2, 3, 4, 5])
        self.assertEqual(value, 11)
        self.assertEqual(made, [("read", 0)] + [("write", 2), ("read", 0)] * 4)
        self.assertEqual(slots, [None, 5, 5, 8, 8, 10, 10, 11, 11])

    def test_the_epoch_moves_on_behind_the_end(self):
        value, made, slots = self.enter_among([3])
        self.assertEqual((value, len(made), slots), (5, 3, [None, 5, 5]))
        self.assertEqual(self.epoch(), 6)

    def test_the_slot_held_something(self):
        self.begin(2, 5)
        put(self.memory, 1, 4)
        self.assertEqual(self.enter(0)[0], 5)
        self.assertEqual(self.slots(), [5, None, None, None])


class LeavingAloneTest(EpochCase):
    def test_nothing_was_taken_out(self):
        for threads in range(1, 5):
            for thread in range(threads):
                self.begin(threads, 3)
                wanted = all_cells(self.memory)
                self.enter(thread)
                value, made = self.leave(thread)
                self.assertIsNone(value)
                self.assertEqual(made, [("write", 1 + thread)])
                self.assertEqual(all_cells(self.memory), wanted)

    def test_something_was_taken_out(self):
        for threads in range(1, 5):
            for thread in range(threads):
                self.begin(threads, 3)
                value, made = self.call(thread, [30])
                others = [other for other in range(threads) if other != thread]
                self.assertIsNone(value)
                self.assertEqual(made, [("read", 0), ("write", 1 + thread), ("read", 0)]
                                 + [("read", 1 + other) for other in others] + [("swap", 0)])
                self.assertEqual(self.epoch(), 4)
                self.assertEqual(self.slots(), [None] * 4)
                self.assertEqual(self.stores[thread].waiting(), [(3, [30])])

    def test_a_list_of_nothing(self):
        self.begin(2)
        self.assertEqual(self.call(0, [])[1], [("write", 1)])

    def test_something_still_waits(self):
        self.begin(2)
        self.call(0, [30])
        self.enter(0)
        self.assertEqual(self.leave(0)[1], [
            ("write", 1), ("read", 0), ("read", 2), ("swap", 0)])
        self.assertEqual(self.stores[0].waiting(), [(0, [30])])
        self.assertEqual(self.epoch(), 2)

    def test_what_is_free_and_when(self):
        self.begin(1)
        store = self.stores[0]
        first = store.free_cells()
        taken = store.take(3, 0)[0]
        self.call(0, [taken[1], taken[0]])
        self.assertEqual(store.waiting(), [(0, [taken[1], taken[0]])])
        self.call(0, [])
        self.assertEqual((self.epoch(), store.waiting()), (2, [(0, [taken[1], taken[0]])]))
        self.assertNotIn(taken[0], store.free_cells())
        self.call(0, [taken[2]])
        # The known epoch is 3 now, and the stamp was 0.
        self.assertEqual((self.epoch(), store.waiting()), (3, [(2, [taken[2]])]))
        self.assertEqual(store.free_cells(), sorted(first[3:] + taken[:2]))
        self.call(0, [])
        self.assertEqual((self.epoch(), store.waiting()), (4, [(2, [taken[2]])]))
        self.call(0, [])
        self.assertEqual((self.epoch(), store.waiting()), (5, []))
        self.assertEqual(store.free_cells(), first)
        # Nothing waits any more: the epoch stays.
        self.assertEqual(self.call(0, [])[1], [("write", 1)])
        self.assertEqual(self.epoch(), 5)

    def test_several_calls_wait(self):
        self.begin(1, 10)
        store = self.stores[0]
        cells = store.take(8, 0)[0]
        seen = []
        for cell in cells:
            self.call(0, [cell])
            seen.append(store.waiting())
        self.assertEqual(seen[:4], [
            [(10, [cells[0]])], [(10, [cells[0]]), (11, [cells[1]])],
            [(11, [cells[1]]), (12, [cells[2]])], [(12, [cells[2]]), (13, [cells[3]])]])
        self.assertEqual(seen[-1], [(16, [cells[6]]), (17, [cells[7]])])
        self.assertEqual(self.epoch(), 18)

    def test_what_another_call_takes_out_has_no_stamp_yet(self):
        self.begin(1)
        store = self.stores[0]
        self.call(0, [30])
        self.enter(0)
        store.take_out([20])
        store.take_out([19])
        self.assertEqual(store.waiting(), [(0, [30]), (None, [20, 19])])
        rows = store.waiting()
        rows[0][1].append(1)
        rows.pop()
        self.assertEqual(store.waiting(), [(0, [30]), (None, [20, 19])])
        self.leave(0)
        self.assertEqual(store.waiting(), [(0, [30]), (1, [20, 19])])

    def test_two_calls_with_the_same_stamp(self):
        self.begin(2)
        self.enter(1)
        self.call(0, [30])
        self.assertEqual(self.epoch(), 1)
        self.call(0, [31])
        self.call(0, [29])
        self.assertEqual(self.stores[0].waiting(), [(0, [30]), (1, [31]), (1, [29])])

    def test_the_list_that_was_passed_may_be_changed_behind_the_stamp(self):
        self.begin(1)
        cells = [30]
        self.call(0, cells)
        cells.append(31)
        self.assertEqual(self.stores[0].waiting(), [(0, [30])])
        self.call(0, [])
        self.call(0, [])
        self.assertIn(30, self.stores[0].free_cells())
        self.assertEqual(cells, [30, 31])

    def test_a_page_need_not_wait(self):
        self.begin(1)
        store = self.stores[0]
        store.take(1, 3)
        self.enter(0)
        store.take_out([10])
        store.give_back([], [(1, 13)])
        self.leave(0)
        self.assertEqual(store.take(0, 1), ([], [(1, 13)]))


class LeavingAmongTest(EpochCase):
    """The slots of the other threads."""

    def leave_with(self, slots, epoch=5, thread=0):
        """Leave with something taken out, where the slots hold these values."""
        self.begin(len(slots), epoch)
        self.stores[thread].take_out([30])
        for at, value in enumerate(slots):
            put(self.memory, 1 + at, value)
        made = self.leave(thread)[1]
        return [cell for kind, cell in made[3:] if kind == "read"], self.epoch()

    def test_all_slots_hold_none_or_the_epoch(self):
        for slots, read in (
                ([5, None], [2]), ([5, 5], [2]), ([5, None, 5, None], [2, 3, 4]),
                ([5, 5, 5, 5], [2, 3, 4])):
            self.assertEqual(self.leave_with(slots), (read, 6))

    def test_the_own_slot_does_not_count(self):
        self.assertEqual(self.leave_with([4, 5]), ([2], 6))
        self.assertEqual(self.leave_with([5, 4, 5], thread=1), ([1, 3], 6))
        self.assertEqual(self.leave_with([5, None, 4, 5], thread=2), ([1, 2, 4], 6))

    def test_up_to_the_first_slot_with_another_value(self):
        for slots, read in (
                ([5, 4], [2]), ([5, 4, 4], [2]), ([5, None, 4, 5], [2, 3]),
                ([5, 5, 5, 4], [2, 3, 4]), ([5, 5, 4, 4], [2, 3]), ([5, 0], [2]),
                ([5, 6], [2])):
            self.assertEqual(self.leave_with(slots), (read, 5))
        self.assertEqual(self.leave_with([5, 5, 4, 5], thread=3), ([1, 2, 3], 5))
        self.assertEqual(self.leave_with([4, 5, 5, 5], thread=3), ([1], 5))

    def test_the_slots_of_threads_that_the_layout_does_not_have(self):
        self.begin(2, 5)
        put(self.memory, 3, 4)
        put(self.memory, 4, 4)
        self.call(0, [30])
        self.assertEqual(self.epoch(), 6)

    def test_the_epoch_0_is_not_an_empty_slot(self):
        self.assertEqual(self.leave_with([0, 0], 0), ([2], 1))
        self.assertEqual(self.leave_with([1, 0], 1), ([2], 1))

    def test_the_slot_of_the_thread_is_empty_before_the_epoch_is_read_again(self):
        self.begin(2)
        self.enter(0)
        self.stores[0].take_out([30])
        stack = Stack(Leaving(self.stores[0]))
        stack.step(self.memory, 0)
        self.assertEqual((self.slots()[0], self.stores[0].waiting()), (0, [(0, [30])]))
        stack.step(self.memory, 0)
        self.assertEqual(self.slots()[0], None)
        self.assertFalse(stack.ended())

    def test_the_stamp_is_the_epoch_at_the_first_access(self):
        self.begin(2, 5)
        self.enter(0)
        self.stores[0].take_out([30])
        put(self.memory, 0, 6)
        stack = Stack(Leaving(self.stores[0]))
        stack.step(self.memory, 0)
        put(self.memory, 0, 7)
        while not stack.ended():
            stack.step(self.memory, 0)
        self.assertEqual(self.stores[0].waiting(), [(6, [30])])
        self.assertEqual(self.epoch(), 8)

    def swap_fails(self, stamp):
        """Leave with an old stamp; the epoch moves on before the swap."""
        self.begin(2, stamp)
        self.call(0, [30])
        put(self.memory, 0, stamp + 2)
        self.enter(0)
        stack = Stack(Leaving(self.stores[0]))
        for _ in range(3):
            stack.step(self.memory, 0)
        put(self.memory, 0, stamp + 3)
        stack.step(self.memory, 0)
        self.assertTrue(stack.ended())
        return self.epoch() - stamp, self.stores[0].waiting()

    def test_a_swap_that_does_not_succeed(self):
        # The known epoch is the one that was read: 30 is not yet free.
        self.assertEqual(self.swap_fails(4), (3, [(4, [30])]))

    def test_what_is_free_if_the_epoch_does_not_move_on(self):
        for behind, waiting in ((2, [(4, [30])]), (3, []), (4, [])):
            self.begin(2, 4)
            self.call(0, [30])
            put(self.memory, 0, 4 + behind)
            put(self.memory, 2, 4)
            self.enter(0)
            self.leave(0)
            self.assertEqual(self.epoch(), 4 + behind)
            self.assertEqual(self.stores[0].waiting(), waiting)

    def test_what_is_free_if_the_epoch_moves_on(self):
        for behind, waiting in ((1, [(4, [30])]), (2, []), (3, [])):
            self.begin(2, 4)
            self.call(0, [30])
            put(self.memory, 0, 4 + behind)
            self.enter(0)
            self.leave(0)
            self.assertEqual(self.epoch(), 5 + behind)
            self.assertEqual(self.stores[0].waiting(), waiting)

    def test_nothing_is_free_before_the_last_access(self):
        self.begin(1)
        self.call(0, [30])
        self.call(0, [])
        self.enter(0)
        stack = Stack(Leaving(self.stores[0]))
        while not stack.ended():
            self.assertEqual(self.stores[0].waiting(), [(0, [30])])
            stack.step(self.memory, 0)
        self.assertEqual(self.stores[0].waiting(), [])

    def test_a_thread_in_a_call_stops_the_epoch(self):
        self.begin(2)
        self.enter(1)
        for many in range(1, 6):
            self.call(0, [30 - many])
            self.assertEqual(self.epoch(), 1)
        self.assertEqual(len(self.stores[0].waiting()), 5)
        self.leave(1)
        # The stamps are 0 and 1; 3 more calls make the epoch 4.
        for _ in range(2):
            self.call(0, [])
        self.assertEqual((self.epoch(), self.stores[0].waiting()[0]), (3, (1, [28])))
        self.call(0, [])
        self.assertEqual((self.epoch(), self.stores[0].waiting()), (4, []))

    def test_a_thread_that_stops_while_entering(self):
        self.begin(2)
        stack = Stack(Entering(self.stores[1]))
        stack.step(self.memory, 1)
        for _ in range(4):
            self.call(0, [30])
        self.assertEqual(self.epoch(), 4)
        stack.step(self.memory, 1)
        self.assertEqual(self.slots()[1], 0)
        self.call(0, [30])
        self.assertEqual(self.epoch(), 4)
        while not stack.ended():
            stack.step(self.memory, 1)
        self.assertEqual((stack.value(), self.slots()[1]), (4, 4))


class RequestsTest(EpochCase):
    def test_asking_twice(self):
        self.begin(3)
        self.stores[0].take_out([30])
        for machine in (Entering(self.stores[0]), Leaving(self.stores[0])):
            while machine.request()[0] != "end":
                before = (all_cells(self.memory), self.stores[0].waiting())
                self.assertTrue(is_steady(machine))
                self.assertEqual((all_cells(self.memory), self.stores[0].waiting()), before)
                machine.accept(self.memory.access(0, machine.request()))
            self.assertTrue(is_steady(machine))

    def test_each_request_in_full(self):
        self.begin(2, 5)
        self.stores[1].take_out([30])
        seen = []
        for machine in (Entering(self.stores[1]), Leaving(self.stores[1])):
            while machine.request()[0] != "end":
                seen.append(machine.request())
                machine.accept(self.memory.access(1, machine.request()))
            seen.append(machine.request())
        self.assertEqual(seen, [
            ("read", 0), ("write", 2, 5), ("read", 0), ("end", 5),
            ("read", 0), ("write", 2, None), ("read", 0), ("read", 1), ("swap", 0, 5, 6),
            ("end", None)])

    def test_a_machine_that_was_made_before_something_was_taken_out(self):
        self.begin(1)
        machine = Leaving(self.stores[0])
        self.enter(0)
        self.stores[0].take_out([30])
        value, made = play_alone(self.memory, machine)
        self.assertIsNone(value)
        self.assertEqual(len(made), 4)
        self.assertEqual(self.stores[0].waiting(), [(0, [30])])


class Visits:
    """A machine that makes call after call; each takes one cell out."""

    def __init__(self, store, cells, reads):
        self.store = store
        self.cells = cells
        self.reads = reads
        self.left = 0
        self.phase = "outside"

    def request(self):
        if self.phase == "outside":
            return ("call", Entering(self.store))
        if self.phase == "inside" and self.left > 0:
            return ("read", 0)
        return ("call", Leaving(self.store))

    def accept(self, result):
        if self.phase == "outside":
            self.phase = "inside"
            self.left = self.reads
        elif self.phase == "inside" and self.left > 0:
            self.left -= 1
            if self.left == 0 and self.cells:
                self.store.take_out([self.cells.pop()])
                self.phase = "leaving"
        else:
            self.phase = "outside"


class ManyVisitsTest(EpochCase):
    """Points [20] and [24] with orders by numbers of a fixed beginning."""

    def play(self, seed, threads, stopping):
        numbers = random.Random(seed)
        self.begin(threads)
        self.machines = [Visits(store, store.take(3, 0)[0], numbers.randint(1, 6))
                         for store in self.stores]
        stacks = [Stack(machine) for machine in self.machines]
        self.entered = [None] * threads
        self.out = {}
        self.freed = 0
        awake = list(range(threads))
        for _ in range(600):
            thread = numbers.choice(awake)
            before = self.epoch()
            free = [set(store.free_cells()) for store in self.stores]
            stacks[thread].step(self.memory, thread)
            self.assertIn(self.epoch(), (before, before + 1))
            self.note(thread)
            self.check(free)
            if stopping and len(awake) > 1 and numbers.random() < 0.005:
                awake.remove(thread)

    def note(self, thread):
        """Note when the thread entered, and when cells were taken out."""
        number = self.memory.count
        if self.machines[thread].phase == "outside" or self.slots()[thread] is None:
            self.entered[thread] = None
        elif self.entered[thread] is None:
            self.entered[thread] = number
            # When entering ends, the slot holds the epoch.
            self.assertEqual(self.slots()[thread], self.epoch())
        for stamp, cells in self.stores[thread].waiting():
            for cell in cells:
                self.out.setdefault(cell, number)

    def check(self, free):
        for thread, entered in enumerate(self.entered):
            if entered is not None:
                self.assertLessEqual(self.epoch(), self.slots()[thread] + 1)
        for store, cells in zip(self.stores, free):
            for cell in set(store.free_cells()) - cells:
                self.freed += 1
                for entered in self.entered:
                    if entered is not None:
                        self.assertLess(self.out[cell], entered)

    def test_all_go_on(self):
        for seed in range(40):
            threads = 2 + seed % 3
            self.play(seed, threads, False)
            self.assertEqual(len(self.out), 3 * threads)
            self.assertEqual(self.freed, 3 * threads)

    def test_some_stop(self):
        for seed in range(40):
            self.play(100 + seed, 2 + seed % 3, True)


if __name__ == "__main__":
    unittest.main()
