"""Machines for tests, and what the tests look at in a memory."""

from espalier.machines import Stack


class Script:
    """A machine that makes the given requests, whatever their results are.

    `accepted` is the list of the results.
    """

    def __init__(self, *requests):
        self.requests = requests
        self.accepted = []

    def request(self):
        return self.requests[len(self.accepted)]

    def accept(self, result):
        self.accepted.append(result)


class Recaller:
    """A machine that calls machines, then ends with the list of their values."""

    def __init__(self, machines):
        self.machines = machines
        self.values = []

    def request(self):
        if len(self.values) < len(self.machines):
            return ("call", self.machines[len(self.values)])
        return ("end", self.values)

    def accept(self, result):
        self.values.append(result)


def all_cells(memory):
    return [memory.peek(cell) for cell in range(memory.layout.cells())]


def state_of(memory):
    """Everything that a refusal must leave as it is."""
    return (all_cells(memory), memory.count, memory.log(), memory.layout)


def put(memory, cell, value):
    """Give a cell a value, whatever it holds."""
    memory.access(0, ("write", cell, value))


def pass_time(memory, count):
    """Make accesses that change nothing until so many have been made."""
    while memory.count < count:
        memory.access(0, ("read", 0))


def play_alone(memory, machine, thread=0):
    """Play a machine to its end; return its value and its accesses as (kind, cell)."""
    before = memory.count
    stack = Stack(machine)
    while not stack.ended():
        stack.step(memory, thread)
    return stack.value(), [row[2:] for row in memory.log()[before:]]


def is_steady(machine):
    """Tell whether asking a machine twice gives the same request."""
    return machine.request() == machine.request()


def play_among(memory, machine, moves, thread=0):
    """Play a machine to its end; behind its access number k `moves[k]` is called.

    Returns its value and its accesses as (number, kind, cell).
    """
    stack = Stack(machine)
    made = []
    while not stack.ended():
        stack.step(memory, thread)
        number, _, kind, cell = memory.log()[-1]
        made.append((number, kind, cell))
        if len(made) in moves:
            moves[len(made)]()
    return stack.value(), made
