"""The world: threads that make their calls in one memory, pick by pick."""

from espalier.calls import KeyCall, is_call, machine_of
from espalier.checks import shown_records, tree_map
from espalier.deeds import is_done
from espalier.epochs import Store
from espalier.errors import NotValid
from espalier.kinds import is_whole
from espalier.machines import Stack
from espalier.memory import Layout, Memory


def _are_calls(calls):
    if not isinstance(calls, list):
        return False
    return all([isinstance(row, list) and all([is_call(call) for call in row]) for row in calls])


def _without_sharing(answer):
    return list(answer) if isinstance(answer, list) else answer


class Thread:
    """A thread with its calls; it makes one after the other."""

    def __init__(self, store, calls):
        self._store = store
        self._calls = list(calls)
        self._rows = []
        self._machine = None
        self._stack = None
        self._first = None

    def is_idle(self):
        """Tell whether all calls have ended."""
        return self.many_ended() == len(self._calls)

    def many_ended(self):
        """Return how many calls have ended."""
        return len(self._rows)

    def step(self, memory):
        """Make the next access of a thread that is not idle."""
        if self._stack is None:
            self._machine = machine_of(self._store, self._calls[self.many_ended()])
            self._stack = Stack(self._machine)
            self._first = memory.count + 1
        self._stack.step(memory, self._store.thread)
        if self._stack.ended():
            answer, witness = self._stack.value()
            self._rows.append(self._row(answer, witness, memory.count))
            self._stack = None

    def rows(self, memory):
        """Return the rows of the calls that were begun."""
        found = [row[:3] + (_without_sharing(row[3]),) + row[4:] for row in self._rows]
        if self._stack is not None:
            found.append(self._row(None, self._witness(memory), None))
        return found

    def _row(self, answer, witness, last):
        index = self.many_ended()
        call = self._calls[index]
        return (self._store.thread, index, call, answer, witness, self._first, last)

    def _witness(self, memory):
        """Return the witness of the call that has not ended."""
        if not isinstance(self._machine, KeyCall):
            return None
        if self._machine.status is not None:
            outcome = memory.peek(self._machine.status)
            if is_done(outcome):
                return outcome[1]
        return self._machine.done


class World:
    """Threads with their calls, and the memory in which they make them."""

    def __init__(self, calls, pages=48, records=400):
        if not _are_calls(calls):
            raise NotValid()
        self.layout = Layout(len(calls), pages, records)
        self.memory = Memory(self.layout)
        self.stores = [Store(self.layout, thread) for thread in range(len(calls))]
        self._threads = [Thread(store, row) for store, row in zip(self.stores, calls)]

    def play(self, picks):
        """Play a list of picks; return the number of accesses that were made."""
        before = self.memory.count
        for thread in picks:
            self._pick(thread)
        return self.memory.count - before

    def run(self, thread, most):
        """Pick a thread until its present call has ended; tell whether it has."""
        if self.idle(thread):
            return False
        before = self._threads[thread].many_ended()
        for _ in range(most):
            self._pick(thread)
            if self._threads[thread].many_ended() > before:
                return True
        return False

    def idle(self, thread):
        """Tell whether a thread has ended all its calls."""
        return not self._is_thread(thread) or self._threads[thread].is_idle()

    def history(self):
        """Return the rows of all calls that were begun."""
        return [row for thread in self._threads for row in thread.rows(self.memory)]

    def shown_map(self):
        """Return what the tree shows as a list of (key, value), keys ascending."""
        return sorted(tree_map(shown_records(self.memory)).items())

    def _pick(self, thread):
        if not self.idle(thread):
            self._threads[thread].step(self.memory)

    def _is_thread(self, thread):
        return is_whole(thread) and 0 <= thread < self.layout.threads
