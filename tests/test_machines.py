"""Points [8], [9] and [10]: machines and their stack."""

import unittest

from espalier.errors import NotValid
from espalier.machines import Stack
from espalier.memory import Layout, Memory
from tests.scripts import Recaller, Script, state_of


class StackCase(unittest.TestCase):
    def setUp(self):
        self.memory = Memory(Layout(2, 4, 40))

    def steps(self, stack, thread=0):
        """Step until the stack is empty; return the counts behind the steps."""
        counts = []
        while not stack.ended():
            self.assertIs(stack.step(self.memory, thread), True)
            counts.append(self.memory.count)
        return counts


class AccessesTest(StackCase):
    def test_each_of_the_four_accesses(self):
        script = Script(
            ("read", 5), ("write", 20, 0), ("swap", 5, 9, 13),
            ("swap", 5, 9, 14), ("decide", 20, "done"), ("decide", 20, "failed"),
            ("read", 20), ("end", "over"))
        stack = Stack(script)
        self.assertEqual(self.steps(stack), [1, 2, 3, 4, 5, 6, 7])
        self.assertEqual(script.accepted, [
            (9, 1), (None, 2), (True, 3), (False, 4), (True, 5), (False, 6),
            (("done", 5), 7)])
        self.assertEqual(stack.value(), "over")

    def test_a_step_makes_exactly_one_access(self):
        script = Script(("read", 0), ("read", 1), ("end", None))
        stack = Stack(script)
        self.assertEqual((self.memory.count, script.accepted), (0, []))
        self.assertIs(stack.step(self.memory, 0), True)
        self.assertEqual(self.memory.log(), [(1, 0, "read", 0)])
        self.assertEqual(script.accepted, [(0, 1)])
        self.assertIs(stack.step(self.memory, 0), True)
        self.assertEqual(self.memory.count, 2)

    def test_the_thread_of_a_step_makes_the_access(self):
        stack = Stack(Script(("read", 0), ("read", 1), ("end", None)))
        stack.step(self.memory, 1)
        stack.step(self.memory, 0)
        self.assertEqual([row[1] for row in self.memory.log()], [1, 0])

    def test_two_stacks_take_turns(self):
        one = Script(("swap", 20, None, 1), ("read", 20), ("end", "one"))
        other = Script(("swap", 20, None, 2), ("swap", 20, 1, 2), ("end", "other"))
        stacks = (Stack(one), Stack(other))
        for thread in (0, 1, 1, 0):
            stacks[thread].step(self.memory, thread)
        self.assertEqual(one.accepted, [(True, 1), (2, 4)])
        self.assertEqual(other.accepted, [(False, 2), (True, 3)])
        self.assertEqual([stack.value() for stack in stacks], ["one", "other"])
        self.assertEqual([row[1] for row in self.memory.log()], [0, 1, 1, 0])


class EndsTest(StackCase):
    def test_a_new_stack_is_not_settled(self):
        for machine in (Script(("end", 3)), Script(("read", 0), ("end", 3))):
            stack = Stack(machine)
            self.assertIs(stack.ended(), False)
            self.assertIsNone(stack.value())
            self.assertEqual(machine.accepted, [])

    def test_the_stack_is_empty_directly_behind_the_last_access(self):
        stack = Stack(Script(("read", 0), ("read", 0), ("end", 3)))
        stack.step(self.memory, 0)
        self.assertIs(stack.ended(), False)
        self.assertIsNone(stack.value())
        stack.step(self.memory, 0)
        self.assertIs(stack.ended(), True)
        self.assertEqual(stack.value(), 3)

    def test_a_machine_that_ends_at_once(self):
        stack = Stack(Script(("end", 3)))
        self.assertIs(stack.step(self.memory, 0), False)
        self.assertIs(stack.ended(), True)
        self.assertEqual(stack.value(), 3)
        self.assertEqual(self.memory.count, 0)

    def test_a_step_with_an_empty_stack_changes_nothing(self):
        stack = Stack(Script(("read", 0), ("end", 3)))
        stack.step(self.memory, 0)
        before = state_of(self.memory)
        for _ in range(3):
            self.assertIs(stack.step(self.memory, 0), False)
            self.assertIs(stack.ended(), True)
            self.assertEqual(stack.value(), 3)
        self.assertEqual(state_of(self.memory), before)

    def test_values_of_all_kinds(self):
        for value in (None, 0, False, "", (), (1, 2), [1, (2,)], {5: 1}):
            stack = Stack(Script(("read", 0), ("end", value)))
            stack.step(self.memory, 0)
            self.assertIs(stack.ended(), True)
            self.assertEqual(stack.value(), value)


class CallsTest(StackCase):
    def test_the_caller_accepts_the_plain_value_of_the_end(self):
        called = Script(("read", 5), ("end", ("found", 9)))
        caller = Script(("call", called), ("read", 9), ("end", 1))
        stack = Stack(caller)
        self.assertEqual(self.steps(stack), [1, 2])
        self.assertEqual(called.accepted, [(9, 1)])
        self.assertEqual(caller.accepted, [
            ("found", 9), (("leaf", None, None, (), ()), 2)])

    def test_the_value_is_that_of_the_first_machine(self):
        called = Script(("read", 5), ("end", "called"))
        stack = Stack(Script(("call", called), ("read", 9), ("end", "caller")))
        stack.step(self.memory, 0)
        self.assertIsNone(stack.value())
        stack.step(self.memory, 0)
        self.assertEqual(stack.value(), "caller")

    def test_the_step_of_the_last_access_settles_all_ends(self):
        inner = Script(("read", 0), ("end", "inner"))
        middle = Script(("call", inner), ("end", "middle"))
        outer = Script(("call", middle), ("end", "outer"))
        stack = Stack(outer)
        self.assertIs(stack.step(self.memory, 0), True)
        self.assertIs(stack.ended(), True)
        self.assertEqual(stack.value(), "outer")
        self.assertEqual(inner.accepted, [(0, 1)])
        self.assertEqual(middle.accepted, ["inner"])
        self.assertEqual(outer.accepted, ["middle"])

    def test_a_call_behind_an_access_settles_in_the_same_step(self):
        called = Script(("end", "at once"))
        caller = Script(("read", 0), ("call", called), ("end", 1))
        stack = Stack(caller)
        stack.step(self.memory, 0)
        self.assertIs(stack.ended(), True)
        self.assertEqual(caller.accepted, [(0, 1), "at once"])

    def test_calls_that_end_at_once_make_no_access(self):
        called = [Script(("end", value)) for value in range(50)]
        stack = Stack(Recaller(called))
        self.assertIs(stack.step(self.memory, 0), False)
        self.assertEqual(stack.value(), list(range(50)))
        self.assertEqual(self.memory.count, 0)

    def test_calls_one_after_the_other(self):
        called = [Script(("read", 5 + page), ("end", page)) for page in range(4)]
        caller = Recaller(called)
        stack = Stack(caller)
        for done in range(4):
            self.assertEqual(caller.values, list(range(done)))
            self.assertIs(stack.step(self.memory, 0), True)
        self.assertEqual(stack.value(), [0, 1, 2, 3])
        self.assertEqual([row[3] for row in self.memory.log()], [5, 6, 7, 8])

    def test_accesses_of_all_levels_in_their_order(self):
        low = Script(("read", 3), ("end", "low"))
        middle = Script(("read", 2), ("call", low), ("read", 4), ("end", "middle"))
        top = Script(("read", 1), ("call", middle), ("read", 5), ("end", "top"))
        stack = Stack(top)
        self.assertEqual(self.steps(stack), [1, 2, 3, 4, 5])
        self.assertEqual([row[3] for row in self.memory.log()], [1, 2, 3, 4, 5])
        self.assertEqual(low.accepted, [(None, 3)])
        self.assertEqual(middle.accepted, [(None, 2), "low", (None, 4)])
        self.assertEqual(top.accepted, [(None, 1), "middle", (9, 5)])

    def test_very_deep_calls(self):
        machine = Script(("read", 0), ("end", 0))
        for depth in range(1, 5001):
            machine = Script(("call", machine), ("read", 0), ("end", depth))
        stack = Stack(machine)
        self.assertEqual(self.steps(stack), list(range(1, 5002)))
        self.assertEqual(stack.value(), 5000)
        self.assertEqual(machine.accepted, [4999, (0, 5001)])


class RefusedStepsTest(StackCase):
    def test_a_refused_request_changes_nothing(self):
        for request in (("read", -1), ("read", 49), ("write", 49, 1), ("look", 5)):
            script = Script(("read", 0), request, ("end", 3))
            stack = Stack(script)
            stack.step(self.memory, 0)
            before = state_of(self.memory)
            accepted = list(script.accepted)
            for _ in range(2):
                with self.assertRaises(NotValid):
                    stack.step(self.memory, 0)
                self.assertEqual(state_of(self.memory), before)
                self.assertEqual(script.accepted, accepted)
                self.assertIs(stack.ended(), False)
                self.assertIsNone(stack.value())

    def test_a_refused_request_of_a_called_machine(self):
        called = Script(("read", 49), ("end", 1))
        caller = Script(("call", called), ("end", 2))
        stack = Stack(caller)
        with self.assertRaises(NotValid):
            stack.step(self.memory, 0)
        self.assertEqual((called.accepted, caller.accepted), ([], []))
        self.assertIs(stack.ended(), False)
        self.assertEqual(self.memory.count, 0)


if __name__ == "__main__":
    unittest.main()
