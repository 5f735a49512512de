"""Writes calls down as the interface tells, and parts what is given back into the answers of each call."""

from chiphouse.bench import answers

MEMORY_SIZE = 65520

NAMES_0 = "add sub and or xor shl shr sar".split()
NAMES_1 = "lts ltu eq".split()
NAMES_13 = "from cause back let may".split()
NAMES_D_A_I6 = {2: "addi", 5: "ld", 6: "st", 10: "jr"}
NAMES_D_I9 = {3: "ldi", 7: "bz", 8: "bnz", 9: "jal"}


def new():
    return [0]


def put(p, words):
    return [1, p, len(words)] + list(words)


def get(p, n):
    return [2, p, n]


def reg(i):
    return [3, i]


def set_to(i, v):
    return [4, i, v]


def go(p):
    return [5, p]


def state():
    return [6]


def feed(k, words):
    return [7, k, len(words)] + list(words)


def told():
    return [8]


def stop(p):
    return [9, p]


def clear(p):
    return [10, p]


def run(n, ups=()):
    return [11, n, len(ups)] + list(ups)


def trace(n, ups=()):
    return [12, n, len(ups)] + list(ups)


def word(kind, parts):
    return [13, kind, len(parts)] + list(parts)


def read(w):
    return [14, w]


def text(w):
    return [15, w]


def as_bytes(row):
    """A row of bytes: a Python text's, or itself."""
    return list(row.encode("ascii")) if isinstance(row, str) else list(row)


def code(row):
    return [16, len(row)] + as_bytes(row)


def load(p, row):
    return [17, p, len(row)] + as_bytes(row)


def listed(p, n):
    return [18, p, n]


def save(k):
    return [19, k]


def back(k):
    return [20, k]


def program(p, *lines):
    """These lines loaded from p on."""
    return load(p, "".join(line + "\n" for line in lines))


def parted(given):
    rows = []
    place = 0
    while place < len(given):
        size = given[place]
        if size < 1 or place + 1 + size > len(given):
            raise AssertionError(f"an answer of {size} numbers at {place} of {len(given)}")
        rows.append(given[place + 1:place + 1 + size])
        place += 1 + size
    return rows


def ask(calls):
    """The answers to these calls, one list each."""
    rows = parted(answers([number for call in calls for number in call]))
    if len(rows) != len(calls):
        raise AssertionError(f"{len(calls)} calls, {len(rows)} answers")
    return rows


def first_difference(rows, expected):
    """The first place where two lists of answers differ, with both; None if they are the same.

    For long lists: unittest's own comparison takes minutes to show how they differ.
    """
    if len(rows) != len(expected):
        return (len(rows), len(expected))
    for k, (row, wanted) in enumerate(zip(rows, expected)):
        if row != wanted:
            return (k, row, wanted)
    return None


def last(calls):
    return ask(calls)[-1]


def look(before, stops=()):
    """All that calls can tell of machine and world behind these calls, and which of these addresses are stops.

    Each probe is asked behind the same calls anew, so no probe sees what another one did.
    """
    seen = {"state": last(before + [state()])}
    seen["regs"] = ask(before + [reg(i) for i in range(8)])[len(before):]
    seen["waiting"] = waiting_behind(before)
    seen["told"] = last(before + [told()])
    seen["memory"] = memory_behind(before)
    seen["stops"] = [last(before + [clear(p)]) for p in stops]
    return seen


def changes(before, call, stops=()):
    """What is another behind this call than before it, as it is then."""
    old = look(before, stops)
    seen = look(before + [call], stops)
    return {name: seen[name] for name in seen if seen[name] != old[name]}


def memory_behind(before):
    """The whole memory behind these calls: which address has which word, where it isn't 0.

    A dict, since two long lists that differ are slow to be told apart in words.
    """
    room = 60 - len(before)
    gets = [get(p, min(64, MEMORY_SIZE - p)) for p in range(0, MEMORY_SIZE, 64)]
    words = []
    for k in range(0, len(gets), room):
        for answer in ask(before + gets[k:k + room])[len(before):]:
            words += answer[1:]
    if len(words) != MEMORY_SIZE:
        raise AssertionError(f"memory has {len(words)} words")
    return {p: word for p, word in enumerate(words) if word != 0}


READ_ALL = (
    "ld r0 r1 0", "st r0 r2 0", "addi r3 r3 -1", "bnz r3 -4",
    "ldi r3 64", "addi r1 r1 1", "bnz r1 -7", "halt",
)


def waiting_behind(before):
    """The words that wait outside behind these calls, one list for each place where some wait.

    They are read by a program, so each kind of step that it needs must be right for this to be.
    """
    sizes = ask(before + [feed(k, []) for k in range(16)])[len(before):]
    if not any(size[0] for size in sizes):
        return {}
    no_stops = [save(3), new(), back(3)]
    start = [set_to(1, MEMORY_SIZE), set_to(2, MEMORY_SIZE), set_to(3, 64), go(60000), told(), run(7000), told()]
    rows = ask(before + no_stops + [program(60000, *READ_ALL)] + start)
    if rows[-2][1] != 1:
        raise AssertionError(f"the reading program ended by {rows[-2]}")
    words = rows[-1][2::2]
    return {k: words[64 * k:64 * k + size[0]] for k, size in enumerate(sizes) if size[0]}


def with_sign(bits):
    return int(bits, 2) - (1 << len(bits)) * int(bits[0])


def told_by_table(w):
    """Kind, parts and text of a word by the document's table, row by row; None, None and its text, if it's none's."""
    bits = f"{w:016b}"
    op, d, a, b, f = (int(part, 2) for part in (bits[:4], bits[4:7], bits[7:10], bits[10:13], bits[13:]))
    i6, i9 = with_sign(bits[10:]), with_sign(bits[7:])
    if op == 0:
        return op, [f, d, a, b], f"{NAMES_0[f]} r{d} r{a} r{b}"
    if op == 1 and f < 3:
        return op, [f, d, a, b], f"{NAMES_1[f]} r{d} r{a} r{b}"
    if op in NAMES_D_A_I6:
        return op, [d, a, i6 % 65536], f"{NAMES_D_A_I6[op]} r{d} r{a} {i6}"
    if op in NAMES_D_I9:
        return op, [d, i9 % 65536], f"{NAMES_D_I9[op]} r{d} {i9}"
    if op == 4 and bits[7] == "0":
        return op, [d, int(bits[8:], 2)], f"ldh r{d} {int(bits[8:], 2)}"
    if op == 11 and int(bits[4:], 2) < 8:
        return op, [f], f"trap {f}"
    if op in (12, 14) and int(bits[4:], 2) == 0:
        return op, [], "ret" if op == 12 else "halt"
    if op == 13 and a == 0 and b == 0 and f < 5:
        return op, [f, d], f"{NAMES_13[f]} r{d}"
    return None, None, f"word {w}"
