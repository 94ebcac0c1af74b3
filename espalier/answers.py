"""What the calls for one key answer, and what they do to its value."""


def effect(call, before):
    """Return (answer, after) of a call that is not a scan.

    `before` and `after` are the values of its key, None where it has none.
    """
    word = call[0]
    if word == "put":
        return (before, call[2])
    if word == "add":
        return (True, call[2]) if before is None else (False, before)
    if word == "change":
        return (True, call[3]) if before == call[2] else (False, before)
    if word == "take":
        return (before, None)
    return (before, before)
