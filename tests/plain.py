"""A plain map for tests: what each call answers and does, case by case."""


def answer_and_map(plain, call):
    """Return (answer, map behind the call); the dict that is passed stays as it is."""
    behind = dict(plain)
    word, key = call[0], call[1]
    if word == "look":
        return plain.get(key), behind
    if word == "put":
        behind[key] = call[2]
        return plain.get(key), behind
    if word == "add":
        behind.setdefault(key, call[2])
        return key not in plain, behind
    if word == "change":
        if key in plain and plain[key] == call[2]:
            behind[key] = call[3]
            return True, behind
        return False, behind
    if word == "take":
        return behind.pop(key, None), behind
    return sorted((each, plain[each]) for each in plain if key <= each < call[2]), behind


def random_call(numbers, keys, words=("look", "put", "add", "change", "take", "scan")):
    """Return a call by numbers of a fixed beginning; keys are below `keys`."""
    word = numbers.choice(words)
    key = numbers.randrange(keys)
    if word in ("look", "take"):
        return (word, key)
    if word == "change":
        return (word, key, numbers.randrange(3), numbers.randrange(3))
    if word == "scan":
        return (word, key - 1, key + numbers.randrange(keys + 1))
    return (word, key, numbers.randrange(3))
