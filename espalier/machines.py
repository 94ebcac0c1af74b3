"""Machines do the work; a stack plays them, one access at a step."""


class Stack:
    """The machines of a thread: each was called by the one below it."""

    def __init__(self, machine):
        self._machines = [machine]
        self._value = None

    def step(self, memory, thread):
        """Make one step; tell whether an access was made."""
        self._settle()
        if self.ended():
            return False
        top = self._machines[-1]
        top.accept(memory.access(thread, top.request()))
        # A call ends with its last access, not with the step after it.
        self._settle()
        return True

    def ended(self):
        """Tell whether the stack is empty."""
        return len(self._machines) == 0

    def value(self):
        """Return the value with which the first machine ended, or None."""
        return self._value

    def _settle(self):
        while not self.ended():
            request = self._machines[-1].request()
            if request[0] == "call":
                self._machines.append(request[1])
            elif request[0] == "end":
                self._end_top(request[1])
            else:
                return

    def _end_top(self, value):
        self._machines.pop()
        if self.ended():
            self._value = value
        else:
            self._machines[-1].accept(value)
