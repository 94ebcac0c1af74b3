"""Histories: the rows of calls, and the plain map that they make."""

from espalier.answers import effect
from espalier.kinds import same

CALL = 2
ANSWER = 3
WITNESS = 4
FIRST = 5
LAST = 6


def answer_of(plain, call):
    """Return the answer of a call on a plain map."""
    if call[0] == "scan":
        return [(key, plain[key]) for key in sorted(plain) if call[1] <= key < call[2]]
    return effect(call, plain.get(call[1]))[0]


def after_call(plain, call):
    """Return the plain map after a call."""
    result = dict(plain)
    if call[0] == "scan":
        return result
    key = call[1]
    after = effect(call, plain.get(key))[1]
    if after is not None:
        result[key] = after
    elif key in result:
        del result[key]
    return result


def has_ended(row):
    """Tell whether the call of a row has ended."""
    return row[LAST] is not None


def took_place(row):
    """Tell whether the call of a row took place."""
    return row[WITNESS] is not None


def is_change(row):
    """Tell whether a row took place and changed the map."""
    if not took_place(row):
        return False
    return not has_ended(row) or _has_changed(row[CALL], row[ANSWER])


def _has_changed(call, answer):
    """Tell from its answer whether a call that took place changed the map."""
    if call[0] == "put":
        return not same(answer, call[2])
    if call[0] == "add":
        return answer is True
    if call[0] == "change":
        return answer is True and call[2] != call[3]
    return call[0] == "take" and answer is not None


def in_order(rows):
    """Return the indexes of the rows that took place, in the order of the history."""
    places = [(row[WITNESS], 0 if is_change(row) else 1, index)
              for index, row in enumerate(rows) if took_place(row)]
    return [index for _, _, index in sorted(places)]


def map_at(rows, number):
    """Return the map of a history at the number of an access."""
    plain = {}
    for index in in_order(rows):
        row = rows[index]
        if is_change(row) and row[WITNESS] <= number:
            plain = after_call(plain, row[CALL])
    return plain


def changes_between(rows, first, last):
    """Return how many changes have a witness from `first` to `last`."""
    return len([row for row in rows if is_change(row) and first <= row[WITNESS] <= last])


def precedes(rows, one, other):
    """Tell whether the call of one row ended before that of the other one began."""
    return has_ended(rows[one]) and rows[one][LAST] < rows[other][FIRST]
