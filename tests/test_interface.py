"""The interface: names, arguments, and where each of them is defined."""

import inspect
import unittest

from espalier import (
    calls, changes, checks, deeds, epochs, errors, histories, judge, machines, memory, nodes,
    reads, scans, walks, world)
from tests.scripts import Script

# Point [8] names the methods of each machine.
MACHINE = {"request": [], "accept": ["result"]}

# Module, class, then its arguments and those of its methods.
CLASSES = (
    (memory, "Layout", ["threads", "pages", "records"], {
        "slot": ["thread"], "word": ["page"], "record": ["index"],
        "cells": [], "is_record": ["cell"]}),
    (memory, "Memory", ["layout"], {
        "access": ["thread", "request"], "peek": ["cell"], "log": []}),
    (machines, "Stack", ["machine"], {
        "step": ["memory", "thread"], "ended": [], "value": []}),
    (reads, "Shown", ["layout", "page"], MACHINE),
    (deeds, "Doing", ["address"], MACHINE),
    (epochs, "Store", ["layout", "thread"], {
        "take": ["cells", "pages"], "give_back": ["cells", "pages"], "take_out": ["cells"],
        "free_cells": [], "free_pages": [], "waiting": []}),
    (epochs, "Entering", ["store"], MACHINE),
    (epochs, "Leaving", ["store"], MACHINE),
    (walks, "Walk", ["layout", "key"], MACHINE),
    (walks, "Look", ["layout", "page"], MACHINE),
    (calls, "KeyCall", ["store", "call"], MACHINE),
    (scans, "Scan", ["store", "low", "high"], MACHINE),
    (world, "World", ["calls", "pages", "records"], {
        "play": ["picks"], "run": ["thread", "most"], "idle": ["thread"], "history": [],
        "shown_map": []}),
    (errors, "EspalierError", [], {}),
    (errors, "NotValid", [], {}),
    (errors, "Broken", [], {}),
)
FUNCTIONS = (
    (memory, "is_mark", ["value"]),
    (reads, "shown_now", ["memory", "page"]),
    (deeds, "deed_record", ["status", "entries"]),
    (nodes, "leaf", ["low", "high", "keys", "values"]),
    (nodes, "inner", ["level", "low", "high", "keys", "pages"]),
    (nodes, "is_record", ["value"]),
    (nodes, "level_of", ["record"]),
    (nodes, "size_of", ["record"]),
    (nodes, "bounds_of", ["record"]),
    (nodes, "child_bounds", ["record", "index"]),
    (nodes, "covers", ["record", "key"]),
    (nodes, "value_in", ["record", "key"]),
    (nodes, "child_of", ["record", "key"]),
    (nodes, "with_value", ["record", "key", "value"]),
    (nodes, "without_key", ["record", "key"]),
    (nodes, "with_child", ["record", "index", "separator", "page"]),
    (nodes, "without_child", ["record", "index"]),
    (nodes, "with_separator", ["record", "index", "separator"]),
    (nodes, "cut", ["record"]),
    (nodes, "joined", ["first", "separator", "second"]),
    (walks, "leaf_step", ["path"]),
    (changes, "plan", ["call", "path", "siblings"]),
    (changes, "new_pages", ["entries"]),
    (changes, "placed", ["entries", "pages"]),
    (calls, "is_call", ["call"]),
    (calls, "machine_of", ["store", "call"]),
    (scans, "rows_between", ["records", "low", "high"]),
    (checks, "shown_records", ["memory"]),
    (checks, "check_tree", ["records"]),
    (checks, "tree_map", ["records"]),
    (checks, "tree_shape", ["records"]),
    (checks, "lost_cells", ["memory", "stores"]),
    (histories, "answer_of", ["plain", "call"]),
    (histories, "after_call", ["plain", "call"]),
    (histories, "is_change", ["row"]),
    (histories, "in_order", ["rows"]),
    (histories, "map_at", ["rows", "number"]),
    (histories, "changes_between", ["rows", "first", "last"]),
    (histories, "precedes", ["rows", "one", "other"]),
    (judge, "first_fault", ["rows"]),
    (judge, "judge", ["rows"]),
)


def parameters(thing):
    return list(inspect.signature(thing).parameters)


class InterfaceTest(unittest.TestCase):
    def test_classes(self):
        for module, name, arguments, methods in CLASSES:
            found = getattr(module, name)
            self.assertTrue(inspect.isclass(found))
            self.assertEqual(found.__module__, module.__name__)
            self.assertEqual(parameters(found), arguments, name)
            for method, names in methods.items():
                self.assertIn(method, vars(found), name)
                self.assertEqual(parameters(vars(found)[method])[1:], names, method)

    def test_functions(self):
        for module, name, arguments in FUNCTIONS:
            found = getattr(module, name)
            self.assertTrue(inspect.isfunction(found))
            self.assertEqual(found.__module__, module.__name__)
            self.assertEqual(parameters(found), arguments)

    def test_fields_are_set_when_an_object_is_created(self):
        layout = memory.Layout(1, 2, 3)
        for name in ("threads", "pages", "records"):
            self.assertIn(name, vars(layout))
        for name in ("layout", "count"):
            self.assertIn(name, vars(memory.Memory(layout)))
        for name in ("layout", "thread"):
            self.assertIn(name, vars(epochs.Store(layout, 0)))
        self.assertIn("restarts", vars(walks.Walk(layout, 5)))
        for name in ("done", "status"):
            self.assertIn(name, vars(calls.KeyCall(epochs.Store(layout, 0), ("look", 5))))
        for name in ("memory", "layout", "stores"):
            self.assertIn(name, vars(world.World([[]])))

    def test_the_numbers_of_pages_and_records_of_a_world_may_be_left_out(self):
        found = inspect.signature(world.World).parameters
        self.assertEqual([each.default for each in found.values()],
                         [inspect.Parameter.empty, 48, 400])

    def test_true_and_false_are_not_used_as_integers(self):
        held = memory.Memory(memory.Layout(1, 2, 3))
        stack = machines.Stack(Script(("read", 0), ("end", 0)))
        truths = (
            stack.ended(), stack.step(held, 0), stack.step(held, 0), stack.ended(),
            held.layout.is_record(7), held.layout.is_record(6),
            memory.is_mark(()), memory.is_mark(7),
            held.access(0, ("swap", 0, 0, 1))[0], held.access(0, ("swap", 0, 0, 1))[0],
            held.access(0, ("decide", 0, "done"))[0],
            calls.is_call(("look", 1)), calls.is_call(1),
            histories.is_change((0, 0, ("look", 1), None, 1, 1, 1)),
            world.World([[]]).idle(0), world.World([[]]).run(0, 9))
        self.assertEqual([isinstance(truth, bool) for truth in truths], [True] * 16)
        numbers = [held.count, held.layout.slot(0), held.layout.word(0),
                   held.layout.record(0), held.layout.cells(), held.peek(0)]
        numbers.extend(number for row in held.log() for number in row[:2])
        store = epochs.Store(held.layout, 0)
        numbers.extend(store.free_cells() + list(store.free_pages()[0]))
        numbers.append(reads.shown_now(held, 0))
        record = nodes.leaf(None, 9, [1, 2], [3, 4])
        numbers.extend([nodes.level_of(record), nodes.size_of(record), nodes.cut(record)[1]])
        numbers.append(nodes.child_of(("inner", 1, None, None, (5,), (1, 2)), 7))
        numbers.extend([walks.Walk(held.layout, 5).restarts, scans.ROUNDS])
        numbers.append(changes.new_pages([(-1, None, record)]))
        played = world.World([[("put", 1, 2)]])
        numbers.extend([played.play([0] * 30), judge.first_fault([])[1]])
        rows = played.history()
        numbers.extend([rows[0][0], rows[0][1], rows[0][4], rows[0][5], rows[0][6]])
        numbers.extend(histories.in_order(rows) + [histories.changes_between(rows, 0, 99)])
        numbers.extend(checks.tree_shape(checks.shown_records(played.memory))[0])
        self.assertNotIn(True, [isinstance(number, bool) for number in numbers])


if __name__ == "__main__":
    unittest.main()
