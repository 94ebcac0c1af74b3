"""Kinds of values that several parts of the program ask for."""


def is_whole(value):
    """Tell whether a value is an integer."""
    # For Python True and False are integers, for the document they are not.
    return isinstance(value, int) and not isinstance(value, bool)


def ascend(values):
    """Tell whether neighbours in a list or tuple are integers that ascend."""
    return all([is_whole(one) and is_whole(other) and one < other
                for one, other in zip(values, values[1:])])


def same(one, other):
    """Tell whether two answers are equal; True is not 1."""
    if isinstance(one, (list, tuple)) and isinstance(other, (list, tuple)):
        return one == other and all([same(part, beside) for part, beside in zip(one, other)])
    return one == other and isinstance(one, bool) == isinstance(other, bool)
