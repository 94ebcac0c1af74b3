"""Nodes: records of what a page is at a moment, never changed."""

from espalier.errors import Broken
from espalier.kinds import ascend, is_whole

LEAF_MOST = 4
INNER_MOST = 5
LEAST = 2


def _is_bound(value):
    return value is None or is_whole(value)


def _are_bounds(low, high):
    if not _is_bound(low) or not _is_bound(high):
        return False
    return low is None or high is None or low < high


def _are_integers(values):
    return isinstance(values, tuple) and all([is_whole(value) for value in values])


def _is_between(low, high, key):
    return (low is None or low <= key) and (high is None or key < high)


def _are_keys(low, high, keys):
    return ascend(keys) and all([_is_between(low, high, key) for key in keys])


def _is_leaf(value):
    if len(value) != 5:
        return False
    _, low, high, keys, values = value
    if not _are_bounds(low, high):
        return False
    if not _are_integers(keys) or not _are_integers(values):
        return False
    return len(keys) == len(values) and _are_keys(low, high, keys)


def _is_inner(value):
    if len(value) != 6:
        return False
    _, level, low, high, keys, pages = value
    if not is_whole(level) or level < 1 or not _are_bounds(low, high):
        return False
    if not _are_integers(keys) or not _are_integers(pages):
        return False
    # A key at the low bound would leave nothing to the first child.
    if len(pages) != len(keys) + 1 or low in keys:
        return False
    return _are_keys(low, high, keys)


def is_record(value):
    """Tell whether a value, which may be anything, is a record."""
    if not isinstance(value, tuple) or len(value) == 0:
        return False
    if value[0] == "leaf":
        return _is_leaf(value)
    if value[0] == "inner":
        return _is_inner(value)
    return value[0] == "free" and len(value) == 2 and is_whole(value[1])


def _row(parts):
    # What is neither a list nor a tuple stays, and is_record refuses it.
    return tuple(parts) if isinstance(parts, list) else parts


def _sound(record):
    if not is_record(record):
        raise Broken()
    return record


def leaf(low, high, keys, values):
    """Return the record of a leaf."""
    return _sound(("leaf", low, high, _row(keys), _row(values)))


def inner(level, low, high, keys, pages):
    """Return the record of an inner node."""
    return _sound(("inner", level, low, high, _row(keys), _row(pages)))


def level_of(record):
    """Return 0 for a leaf, the level of an inner node, -1 for a free page."""
    if record[0] == "leaf":
        return 0
    if record[0] == "inner":
        return record[1]
    return -1


def size_of(record):
    """Return the number of keys of a leaf, or of pages of an inner node."""
    if record[0] == "leaf":
        return len(record[3])
    return len(record[5])


def bounds_of(record):
    """Return (low, high) of a leaf or an inner node."""
    if record[0] == "leaf":
        return (record[1], record[2])
    return (record[2], record[3])


def child_bounds(record, index):
    """Return (low, high) of a child of an inner node."""
    low, high = bounds_of(record)
    keys = record[4]
    if index > 0:
        low = keys[index - 1]
    if index < len(keys):
        high = keys[index]
    return (low, high)


def covers(record, key):
    """Tell whether a record covers a key; a free page covers none."""
    if record[0] == "free":
        return False
    low, high = bounds_of(record)
    return _is_between(low, high, key)


def value_in(record, key):
    """Return the value of a key in a leaf, or None."""
    keys = record[3]
    if key in keys:
        return record[4][keys.index(key)]
    return None


def child_of(record, key):
    """Return the index of the child of an inner node that has the key."""
    return len([own for own in record[4] if own <= key])


def with_value(record, key, value):
    """Return the leaf in which the key has the value; it may have too many."""
    _, low, high, keys, values = record
    at = len([own for own in keys if own < key])
    behind = at + 1 if key in keys else at
    return leaf(low, high, keys[:at] + (key,) + keys[behind:],
                values[:at] + (value,) + values[behind:])


def without_key(record, key):
    """Return the leaf without a key that it has; it may have too few."""
    _, low, high, keys, values = record
    at = keys.index(key)
    return leaf(low, high, keys[:at] + keys[at + 1:], values[:at] + values[at + 1:])


def with_child(record, index, separator, page):
    """Return the inner node with a new page directly behind that of the index."""
    _, level, low, high, keys, pages = record
    at = index + 1
    return inner(level, low, high, keys[:index] + (separator,) + keys[index:],
                 pages[:at] + (page,) + pages[at:])


def without_child(record, index):
    """Return the inner node without a page and the key before it."""
    _, level, low, high, keys, pages = record
    return inner(level, low, high, keys[:index - 1] + keys[index:],
                 pages[:index] + pages[index + 1:])


def with_separator(record, index, separator):
    """Return the inner node with another key before the page of the index."""
    _, level, low, high, keys, pages = record
    return inner(level, low, high, keys[:index - 1] + (separator,) + keys[index:], pages)


def cut(record):
    """Return (first, separator, second) of a record that has too many."""
    # Of an odd number the first part has one more.
    half = (size_of(record) + 1) // 2
    if record[0] == "leaf":
        return _cut_leaf(record, half)
    return _cut_inner(record, half)


def _cut_leaf(record, half):
    _, low, high, keys, values = record
    separator = keys[half]
    first = leaf(low, separator, keys[:half], values[:half])
    return (first, separator, leaf(separator, high, keys[half:], values[half:]))


def _cut_inner(record, half):
    _, level, low, high, keys, pages = record
    separator = keys[half - 1]
    first = inner(level, low, separator, keys[:half - 1], pages[:half])
    return (first, separator, inner(level, separator, high, keys[half:], pages[half:]))


def joined(first, separator, second):
    """Return one record with all of two neighbours; it may have too many."""
    low = bounds_of(first)[0]
    high = bounds_of(second)[1]
    if first[0] == "leaf":
        return leaf(low, high, first[3] + second[3], first[4] + second[4])
    return inner(first[1], low, high, first[4] + (separator,) + second[4],
                 first[5] + second[5])
