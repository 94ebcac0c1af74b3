"""Deeds: a deed swaps several words at one moment, and everybody may do it."""

from espalier.errors import NotValid
from espalier.kinds import ascend
from espalier.memory import is_mark


def is_done(status):
    """Tell whether the value of a status cell is that of a deed that is done."""
    return isinstance(status, tuple) and status[0] == "done"


def deed_record(status, entries):
    """Return the record of a deed; its entries are (cell, old, new)."""
    rows = tuple([tuple(entry) for entry in entries])
    if len(rows) == 0 or not ascend([row[0] for row in rows]):
        raise NotValid()
    return ("deed", status, rows)


class Doing:
    """A machine that does a deed; it ends with the value of its status."""

    def __init__(self, address):
        self._address = address
        self._status = None
        self._entries = ()
        self._at = 0
        self._outcome = 0
        self._wanted = ("read", address)
        self._then = self._take_deed

    def request(self):
        """Return what is wanted next."""
        return self._wanted

    def accept(self, result):
        """Take the result of the last request."""
        then = self._then
        then(result)

    def _want(self, request, then):
        self._wanted = request
        self._then = then

    def _take_deed(self, result):
        self._status = result[0][1]
        self._entries = result[0][2]
        self._want(("read", self._status), self._take_status)

    def _take_status(self, result):
        self._outcome = result[0]
        if self._outcome == 0:
            self._read_word()
        else:
            self._at = 0
            self._clean_word()

    def _own_mark(self):
        entry = self._entries[self._at]
        return (self._address, self._status, entry[1], entry[2])

    def _read_word(self):
        if self._at == len(self._entries):
            self._decide("done")
        else:
            self._want(("read", self._entries[self._at][0]), self._take_word)

    def _take_word(self, result):
        value = result[0]
        cell, old, _ = self._entries[self._at]
        if value == self._own_mark():
            self._pass_word()
        elif is_mark(value):
            self._want(("call", Doing(value[0])), self._take_help)
        elif value == old:
            self._want(("swap", cell, old, self._own_mark()), self._take_swap)
        else:
            self._decide("failed")

    def _take_help(self, result):
        # How the other deed ended does not matter: its mark is gone.
        self._read_word()

    def _take_swap(self, result):
        if result[0]:
            self._pass_word()
        else:
            self._read_word()

    def _pass_word(self):
        self._at += 1
        self._read_word()

    def _decide(self, word):
        self._want(("decide", self._status, word), self._take_decision)

    def _take_decision(self, result):
        # Another thread may have decided before: only the status tells how.
        self._want(("read", self._status), self._take_status)

    def _clean_word(self):
        if self._at == len(self._entries):
            self._want(("end", self._outcome), None)
            return
        cell, old, new = self._entries[self._at]
        shown = new if is_done(self._outcome) else old
        self._want(("swap", cell, self._own_mark(), shown), self._take_cleaning)

    def _take_cleaning(self, result):
        # If the mark was gone already, somebody else has cleaned the word.
        self._at += 1
        self._clean_word()
