"""Lists of calls by chance, held against the document's words written down a second time."""

import copy
import random
import unittest

from asking import (
    ask, as_bytes, back, clear, code, feed, first_difference, get, go, listed, load, new, put, read, reg, run, save,
    set_to, state, stop, text, told, told_by_table, trace, word,
)

PARTED = [told_by_table(w) for w in range(65536)]
WORD_OF_TEXT = {written: w for w, (kind, parts, written) in enumerate(PARTED)}
WORD_OF_PARTS = {(kind, *parts): w for w, (kind, parts, written) in enumerate(PARTED) if kind is not None}


def signed(w):
    return w - 65536 if w > 32767 else w


RESULTS = {
    "add": lambda x, y: x + y, "sub": lambda x, y: x - y, "and": lambda x, y: x & y, "or": lambda x, y: x | y,
    "xor": lambda x, y: x ^ y, "shl": lambda x, y: x << (y & 15), "shr": lambda x, y: x >> (y & 15),
    "sar": lambda x, y: signed(x) >> (y & 15), "lts": lambda x, y: int(signed(x) < signed(y)),
    "ltu": lambda x, y: int(x < y), "eq": lambda x, y: int(x == y),
}


class Model:
    """Does steps by the instructions' texts; memory has only what was ever put there."""

    def __init__(self):
        self.saved = {}
        self.sorts = {}
        self.new()

    def new(self):
        self.now = {
            "regs": [0] * 8, "pc": 0, "may": 0, "from": 0, "cause": 0, "halted": 0,
            "memory": {}, "waiting": {k: [] for k in range(16)}, "told": [],
        }
        self.stops = set()
        return [0]

    def put(self, p, row):
        places = range(p, p + len(row))
        if any(place >= 65520 for place in places):
            return [-1]
        self.now["memory"].update(zip(places, row))
        return [len(row)]

    def get(self, p, n):
        places = range(p, p + n)
        if n > 64 or any(place >= 65520 for place in places):
            return [-1]
        return [n] + [self.now["memory"].get(place, 0) for place in places]

    def reg(self, i):
        return [-1] if i > 7 else [self.now["regs"][i]]

    def set(self, i, v):
        if i > 7:
            return [-1]
        self.now["regs"][i] = v
        return [0]

    def go(self, p):
        self.now.update(pc=p, halted=0)
        return [0]

    def state(self):
        return [self.now[name] for name in ("pc", "may", "from", "cause", "halted")]

    def feed(self, k, row):
        if k > 15:
            return [-1]
        if len(self.now["waiting"][k]) + len(row) > 64:
            return [-3]
        self.now["waiting"][k] += row
        return [len(self.now["waiting"][k])]

    def told(self):
        pairs = self.now["told"]
        self.now["told"] = []
        return [len(pairs)] + [number for pair in pairs for number in pair]

    def stop(self, p):
        if p in self.stops:
            return [0]
        if len(self.stops) == 16:
            return [-3]
        self.stops.add(p)
        return [1]

    def clear(self, p):
        if p not in self.stops:
            return [-4]
        self.stops.remove(p)
        return [0]

    def save(self, k):
        if k > 3:
            return [-1]
        self.saved[k] = copy.deepcopy(self.now)
        return [0]

    def back(self, k):
        if k not in self.saved:
            return [-4]
        self.now = copy.deepcopy(self.saved[k])
        return [0]

    def word(self, kind, parts):
        return [WORD_OF_PARTS.get((kind, *parts), -1)]

    def read(self, w):
        kind, parts, written = PARTED[w]
        return [-4] if kind is None else [kind] + parts

    def text(self, w):
        row = as_bytes(PARTED[w][2])
        return [len(row)] + row

    def code(self, row):
        return [WORD_OF_TEXT.get(bytes(row).decode("latin-1"), -4)]

    def load(self, p, row):
        *lines, rest = bytes(row).decode("latin-1").split("\n")
        words = [WORD_OF_TEXT.get(line) for line in lines]
        if None in words:
            return [-6, words.index(None)]
        if rest:
            return [-6, len(words)]
        return self.put(p, words)

    def list(self, p, n):
        words = self.get(p, n)
        if words == [-1]:
            return words
        row = as_bytes("".join(PARTED[w][2] + "\n" for w in words[1:]))
        return [len(row)] + row

    def run(self, n, ups):
        done = 0
        while True:
            if self.now["halted"]:
                return [done, 1]
            if done == n:
                return [done, 0]
            if done and self.now["pc"] in self.stops:
                return [done, 2]
            self.step(done in ups)
            done += 1

    def trace(self, n, ups):
        if n > 64:
            return [-1]
        rows = []
        for number in range(n):
            if self.now["halted"]:
                break
            pc = self.now["pc"]
            rows.append((pc, self.now["memory"].get(pc, 0), self.step(number in ups)))
        return [len(rows)] + [number for row in rows for number in row]

    def trap(self, cause, place):
        self.now.update({"from": place, "cause": cause, "may": 0, "pc": 2})

    def step(self, up):
        now = self.now
        pc = now["pc"]
        if up and now["may"]:
            self.trap(1, pc)
            return self.counted("interrupt", 1)
        kind, parts, written = PARTED[now["memory"].get(pc, 0)]
        if kind is None:
            self.trap(2, pc)
            return self.counted("no instruction", 2)
        name, *pieces = written.split(" ")
        numbers = [int(piece.lstrip("r")) for piece in pieces]
        now["pc"] = (pc + 1) % 65536
        self.do(name, numbers, list(now["regs"]))
        return self.counted(name, 0)

    def counted(self, sort, answer):
        self.sorts[sort] = self.sorts.get(sort, 0) + 1
        return answer

    def do(self, name, numbers, regs):
        """regs are the registers as they were before."""
        now = self.now
        behind = now["pc"]
        d = numbers[0] if numbers else None
        if name in RESULTS:
            now["regs"][d] = RESULTS[name](regs[numbers[1]], regs[numbers[2]]) % 65536
        elif name in ("addi", "ld", "st", "jr"):
            self.do_with_sum(name, d, (regs[numbers[1]] + numbers[2]) % 65536, regs)
        elif name == "ldi":
            now["regs"][d] = numbers[1] % 65536
        elif name == "ldh":
            now["regs"][d] = (numbers[1] << 8) | (regs[d] & 255)
        elif name == "jal" or name == "bz" and regs[d] == 0 or name == "bnz" and regs[d] != 0:
            now["pc"] = (behind + numbers[1]) % 65536
            if name == "jal":
                now["regs"][d] = behind
        elif name == "trap":
            self.trap(16 + d, behind)
        elif name == "ret":
            now.update(pc=now["from"], may=1)
        elif name in ("from", "cause", "may"):
            now["regs"][d] = now[name]
        elif name == "back":
            now["from"] = regs[d]
        elif name == "let":
            now["may"] = regs[d] & 1
        elif name == "halt":
            now.update(pc=(behind - 1) % 65536, halted=1)

    def do_with_sum(self, name, d, place, regs):
        now = self.now
        if name == "addi":
            now["regs"][d] = place
        elif name == "jr":
            now["regs"][d] = now["pc"]
            now["pc"] = place
        elif name == "ld" and place >= 65520:
            words = now["waiting"][place - 65520]
            now["regs"][d] = words.pop(0) if words else 0
        elif name == "ld":
            now["regs"][d] = now["memory"].get(place, 0)
        elif place >= 65520:
            now["told"].append((place - 65520, regs[d]))
        else:
            now["memory"][place] = regs[d]


class Chance:
    """Calls by chance, such that much of what the document tells happens now and then."""

    def __init__(self, seed):
        self.random = random.Random(seed)
        self.steps = 20000

    def one_of(self, *choices):
        return self.random.choice(choices)

    def below(self, n):
        return self.random.randrange(n)

    def address(self):
        return self.one_of(0, 1, 2, self.below(8), self.below(60), 65518, 65519, 65520, 65535, self.below(65536))

    def number(self):
        return self.one_of(0, 1, 2, 15, 16, 32767, 32768, 65519, 65520 + self.below(16), 65535, self.below(65536))

    def small(self):
        return self.one_of(0, 3, 7, 8, 15, 16, 65535, self.below(8))

    def instruction(self):
        if self.below(12) == 0:
            return self.below(65536)
        kind = self.one_of(0, 0, 1, 2, 2, 3, 4, 5, 5, 6, 6, 7, 8, 9, 10, 11, 12, 13, 13)
        if self.below(25) == 0:
            kind = 14
        while True:
            w = kind * 4096 + self.below(4096)
            if kind in (3, 7, 8, 9) and self.below(3):
                w = w // 512 * 512 + self.one_of(0, 1, 2, 5, 511, 510, 505)
            if kind in (11, 12, 13, 14):
                w = kind * 4096 + self.below(8) * 512 + self.below(8)
            if PARTED[w][0] is not None:
                return w

    def words(self):
        if self.below(4) == 0:
            return [self.number() for k in range(self.one_of(0, 1, 2, 64))]
        return [self.instruction() for k in range(self.one_of(1, 2, 20, 60))]

    def ups(self):
        return [self.one_of(self.below(10), self.below(100), 65535) for k in range(self.one_of(0, 0, 1, 5, 30, 64))]

    def some_steps(self):
        n = min(self.steps, self.one_of(0, 1, 2, self.below(20), self.below(65), 65, self.below(400)))
        self.steps -= n
        return n

    def row(self, lines):
        """Bytes of some lines, now and then with a byte that's changed, gone or too much."""
        row = as_bytes("".join(PARTED[self.instruction()][2] + "\n" for k in range(lines)))
        if row and self.below(3) == 0:
            place = self.below(len(row))
            byte = self.one_of(32, 45, 48, 49, 56, 114, 10, self.below(256))
            row[place:place + self.below(2)] = [byte][:self.below(2)]
        return row

    def parts(self):
        if self.below(3) == 0:
            return [self.number() for k in range(self.below(9))]
        kind, parts, written = PARTED[self.instruction()]
        parts = list(parts or [])
        if parts and self.below(4) == 0:
            parts[self.below(len(parts))] = self.one_of(8, 31, 32, 255, 256, 65503, 65504, 65279, 65280)
        return parts

    def call(self, model):
        """A call and what the model answers to it."""
        kind = self.one_of(*range(1, 21), 1, 4, 5, 6, 7, 11, 11, 11, 12, 12, 17)
        if kind == 6 and self.below(6) == 0:
            kind = 0
        p, v, n, k = self.address(), self.number(), self.one_of(0, 1, 2, 20, 64, 65), self.small()
        place = self.one_of(self.below(4), self.below(20), 2, 65535)
        if kind in (1, 7):
            words = self.words()
            return (put(p, words), model.put(p, words)) if kind == 1 else (feed(k, words), model.feed(k, words))
        if kind in (11, 12):
            n, ups = self.some_steps(), self.ups()
            return (run(n, ups), model.run(n, ups)) if kind == 11 else (trace(n, ups), model.trace(n, ups))
        if kind == 13:
            number, parts = self.one_of(self.below(15), self.below(17), self.number()), self.parts()
            return word(number, parts), model.word(number, parts)
        if kind == 16:
            row = self.row(1)[:-1]
            return code(row), model.code(row)
        if kind == 17:
            row = self.row(self.one_of(0, 1, 5, 40))
            return load(p, row), model.load(p, row)
        return {
            0: lambda: (new(), model.new()), 2: lambda: (get(p, n), model.get(p, n)),
            3: lambda: (reg(k), model.reg(k)), 4: lambda: (set_to(k, v), model.set(k, v)),
            5: lambda: (go(p), model.go(p)), 6: lambda: (state(), model.state()), 8: lambda: (told(), model.told()),
            9: lambda: (stop(place), model.stop(place)), 10: lambda: (clear(place), model.clear(place)),
            14: lambda: (read(v), model.read(v)), 15: lambda: (text(v), model.text(v)),
            18: lambda: (listed(p, n), model.list(p, n)), 19: lambda: (save(k % 6), model.save(k % 6)),
            20: lambda: (back(k % 5), model.back(k % 5)),
        }[kind]()


def state_calls(model):
    """All of machine and memory's first words, to be asked at the end of a list."""
    calls = [state(), told(), get(0, 64)] + [reg(i) for i in range(8)]
    found = [model.state(), model.told(), model.get(0, 64)] + [model.reg(i) for i in range(8)]
    return list(zip(calls, found))


class HeldAgainstAModel(unittest.TestCase):
    def test_many_lists_of_calls(self):
        happened = {}
        for seed in range(1500):
            chance = Chance(seed)
            model = Model()
            pairs = [chance.call(model) for k in range(chance.below(50))] + state_calls(model)
            given = ask([pair[0] for pair in pairs])
            self.assertIsNone(first_difference(given, [pair[1] for pair in pairs]), seed)
            for call, answer in pairs:
                what = (call[0], answer[0] if answer[0] < 0 else answer[1] if call[0] == 11 else 0)
                happened[what] = happened.get(what, 0) + 1
        refusals = [
            (1, -1), (2, -1), (3, -1), (4, -1), (7, -1), (7, -3), (10, -4), (12, -1), (13, -1), (14, -4), (16, -4),
            (17, -6), (17, -1), (18, -1), (19, -1), (20, -4),
        ]
        reasons = [(11, 1), (11, 2)]
        for what in refusals + reasons + [(kind, 0) for kind in range(21)]:
            self.assertGreater(happened.get(what, 0), 20, what)

    def test_programs(self):
        """Runs of a memory full of instructions, from many registers; each sort of step happens in some."""
        happened = {"interrupt": 0, "no instruction": 0}
        for kind, parts, written in PARTED:
            if kind is not None:
                happened[written.split(" ")[0]] = 0
        self.assertEqual(len(happened), 30)
        for seed in range(5000, 5400):
            chance = Chance(seed)
            model = Model()
            pairs = []
            words = [chance.instruction() for k in range(1000)]
            pairs.append((put(0, words), model.put(0, words)))
            for i in range(8):
                v = chance.number()
                pairs.append((set_to(i, v), model.set(i, v)))
            for k in range(16):
                row = [chance.number() for j in range(chance.below(9))]
                pairs.append((feed(k, row), model.feed(k, row)))
            for k in range(11):
                n, ups = chance.below(200), chance.ups()
                pairs.append((run(n, ups), model.run(n, ups)))
                p = chance.below(1000)
                pairs.append((go(p), model.go(p)) if chance.below(3) == 0 else (trace(9, ups), model.trace(9, ups)))
            pairs.append((get(968, 64), model.get(968, 64)))
            pairs += state_calls(model)
            given = ask([pair[0] for pair in pairs])
            self.assertLessEqual(len(given), 60)
            self.assertIsNone(first_difference(given, [pair[1] for pair in pairs]), seed)
            for sort, times in model.sorts.items():
                happened[sort] += times
        self.assertGreater(min(happened.values()), 20, happened)

    def test_words_stay_words(self):
        for seed in range(9000, 9200):
            chance = Chance(seed)
            model = Model()
            pairs = [chance.call(model) for k in range(40)] + state_calls(model)
            for answer in ask([pair[0] for pair in pairs]):
                self.assertTrue(all(isinstance(number, int) and number <= 65535 for number in answer), answer)
                refused = len(answer) == 1 and answer[0] in (-1, -3, -4) or len(answer) == 2 and answer[0] == -6
                self.assertTrue(refused or all(number >= 0 for number in answer), answer)


if __name__ == "__main__":
    unittest.main()
