"""The judge: looks for the first fault of a history."""

from espalier.histories import (
    ANSWER, CALL, FIRST, LAST, WITNESS, after_call, answer_of, changes_between, has_ended,
    in_order, is_change, took_place)
from espalier.kinds import same
from espalier.scans import ROUNDS

THREAD = 0
INDEX = 1


def _is_untimely(rows, at):
    first, last, witness = rows[at][FIRST], rows[at][LAST], rows[at][WITNESS]
    if first < 1 or (has_ended(rows[at]) and last < first):
        return True
    if not took_place(rows[at]):
        return False
    return witness < first or (has_ended(rows[at]) and witness > last)


def _is_call_of(row, thread, index):
    return row[THREAD] == thread and row[INDEX] == index


def _is_out_of_turn(rows, at):
    row = rows[at]
    thread, index = row[THREAD], row[INDEX]
    if any([_is_call_of(other, thread, index) for other in rows[:at]]):
        return True
    before = [other for other in rows if _is_call_of(other, thread, index - 1)]
    if len(before) == 0:
        return index != 0
    return not has_ended(before[-1]) or before[-1][LAST] >= row[FIRST]


def _is_missing(rows, at):
    row = rows[at]
    word, answer = row[CALL][0], row[ANSWER]
    only_reads = word == "look" or word == "scan"
    if (answer == "busy" and word != "scan") or (answer == "full" and only_reads):
        return True
    if not has_ended(row):
        return only_reads and took_place(row)
    # Whoever ends with another answer than these two took place, and nobody else.
    return took_place(row) == (answer == "full" or answer == "busy")


def _is_second(rows, at):
    if not is_change(rows[at]):
        return False
    return any([is_change(other) and other[WITNESS] == rows[at][WITNESS] for other in rows[:at]])


def _is_undisturbed(rows, at):
    row = rows[at]
    if not has_ended(row) or row[ANSWER] != "busy":
        return False
    return changes_between(rows, row[FIRST], row[LAST]) < ROUNDS


def _first_wrong_answer(rows):
    """Return the index of the first row that the plain map answers otherwise, or -1."""
    plain = {}
    for index in in_order(rows):
        call = rows[index][CALL]
        if has_ended(rows[index]) and not same(rows[index][ANSWER], answer_of(plain, call)):
            return index
        plain = after_call(plain, call)
    return -1


# The faults before and behind "answer", which alone goes by the order of the history.
BEFORE = (("time", _is_untimely), ("thread", _is_out_of_turn), ("missing", _is_missing),
          ("twice", _is_second))
BEHIND = (("busy", _is_undisturbed),)


def _first_in(faults, rows):
    for word, is_fault in faults:
        for at in range(len(rows)):
            if is_fault(rows, at):
                return (word, at)
    return ("", -1)


def first_fault(rows):
    """Return (word, index) of the first fault of a history, or ("", -1)."""
    found = _first_in(BEFORE, rows)
    if found[1] >= 0:
        return found
    at = _first_wrong_answer(rows)
    if at >= 0:
        return ("answer", at)
    return _first_in(BEHIND, rows)


def judge(rows):
    """Return the word of the first fault of a history, or ""."""
    return first_fault(rows)[0]
