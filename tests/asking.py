"""Writes calls down as the interface tells, and parts what is given back into the answers of each call."""

from chiphouse.bench import answers

MEMORY_SIZE = 65520


def new():
    return [0]


def put(p, words):
    return [1, p, len(words)] + list(words)


def get(p, n):
    return [2, p, n]


def reg(i):
    return [3, i]


def set_to(i, v):
    return [4, i, v]


def go(p):
    return [5, p]


def state():
    return [6]


def feed(k, words):
    return [7, k, len(words)] + list(words)


def told():
    return [8]


def stop(p):
    return [9, p]


def clear(p):
    return [10, p]


def parted(given):
    rows = []
    place = 0
    while place < len(given):
        size = given[place]
        if size < 1 or place + 1 + size > len(given):
            raise AssertionError(f"an answer of {size} numbers at {place} of {len(given)}")
        rows.append(given[place + 1:place + 1 + size])
        place += 1 + size
    return rows


def ask(calls):
    """The answers to these calls, one list each."""
    rows = parted(answers([number for call in calls for number in call]))
    if len(rows) != len(calls):
        raise AssertionError(f"{len(calls)} calls, {len(rows)} answers")
    return rows


def first_difference(rows, expected):
    """The first place where two lists of answers differ, with both; None if they are the same.

    For long lists: unittest's own comparison takes minutes to show how they differ.
    """
    if len(rows) != len(expected):
        return (len(rows), len(expected))
    for k, (row, wanted) in enumerate(zip(rows, expected)):
        if row != wanted:
            return (k, row, wanted)
    return None


def last(calls):
    return ask(calls)[-1]


def look(before, stops=()):
    """All that calls can tell of machine and world behind these calls, and which of these addresses are stops.

    Each probe is asked behind the same calls anew, so no probe sees what another one did.
    """
    seen = {"state": last(before + [state()])}
    probes = [reg(i) for i in range(8)] + [feed(k, []) for k in range(16)]
    seen["regs"] = ask(before + probes[:8])[len(before):]
    seen["waiting"] = ask(before + probes[8:])[len(before):]
    seen["told"] = last(before + [told()])
    seen["memory"] = memory_behind(before)
    seen["stops"] = [last(before + [clear(p)]) for p in stops]
    return seen


def memory_behind(before):
    """The whole memory behind these calls: which address has which word, where it isn't 0.

    A dict, since two long lists that differ are slow to be told apart in words.
    """
    room = 60 - len(before)
    gets = [get(p, min(64, MEMORY_SIZE - p)) for p in range(0, MEMORY_SIZE, 64)]
    words = []
    for k in range(0, len(gets), room):
        for answer in ask(before + gets[k:k + room])[len(before):]:
            words += answer[1:]
    if len(words) != MEMORY_SIZE:
        raise AssertionError(f"memory has {len(words)} words")
    return {p: word for p, word in enumerate(words) if word != 0}
