"""new, and what all calls have in common: P2, P6 and the interface."""

import random
import unittest

from asking import (
    ask, clear, feed, first_difference, get, go, last, look, new, parted, put, reg, set_to, state, stop, told,
)

from chiphouse.bench import answers

STOPS = (0, 7, 300, 65535)
BUSY = [
    put(0, [1, 2, 3]), put(65519, [65535]), set_to(0, 65535), set_to(7, 8), go(65535),
    feed(0, [1] * 64), feed(15, [2]), stop(7), stop(65535),
]


class New(unittest.TestCase):
    def test_all_is_as_at_first_behind_new(self):
        at_first = look([], STOPS)
        self.assertNotEqual(look(BUSY, STOPS), at_first)
        self.assertEqual(look(BUSY + [new()], STOPS), at_first)

    def test_answers_0_whatever_was(self):
        self.assertEqual(ask([new(), new()]), [[0], [0]])
        self.assertEqual(last(BUSY + [new()]), [0])

    def test_all_16_stops_are_gone(self):
        calls = [stop(p) for p in range(16)] + [new()] + [stop(p) for p in range(16, 32)]
        self.assertEqual(ask(calls)[17:], [[1]] * 16)

    def test_can_be_fed_full_again(self):
        self.assertEqual(ask([feed(3, [1] * 64), new(), feed(3, [1] * 64)]), [[64], [0], [64]])

    def test_at_first(self):
        seen = look([], STOPS)
        self.assertEqual(seen["state"], [0, 0, 0, 0, 0])
        self.assertEqual(seen["regs"], [[0]] * 8)
        self.assertEqual(seen["waiting"], [[0]] * 16)
        self.assertEqual(seen["told"], [0])
        self.assertEqual(seen["memory"], {})
        self.assertEqual(seen["stops"], [[-4]] * 4)


class NothingElseChanges(unittest.TestCase):
    """P6: behind each call only what it tells of is another than before."""

    def changed(self, call):
        before = look(BUSY, STOPS)
        after = look(BUSY + [call], STOPS)
        return {name: after[name] for name in before if after[name] != before[name]}

    def test_asking_changes_nothing(self):
        for call in (get(0, 64), get(65535, 0), reg(0), reg(7), state(), told(), put(9, []), feed(0, [])):
            self.assertEqual(self.changed(call), {}, call)

    def test_refused_changes_nothing(self):
        refused = (
            put(65519, [1, 2]), get(0, 65), reg(8), set_to(8, 1), feed(16, [1]), feed(0, [1]), clear(0), clear(300),
        )
        for call in refused:
            self.assertLess(last(BUSY + [call])[0], 0, call)
            self.assertEqual(self.changed(call), {}, call)

    def test_put(self):
        memory = {0: 1, 1: 2, 2: 3, 100: 4, 101: 5, 65519: 65535}
        self.assertEqual(self.changed(put(100, [4, 5])), {"memory": memory})

    def test_set(self):
        regs = [[65535], [0], [0], [6], [0], [0], [0], [8]]
        self.assertEqual(self.changed(set_to(3, 6)), {"regs": regs})

    def test_go(self):
        self.assertEqual(self.changed(go(12)), {"state": [12, 0, 0, 0, 0]})

    def test_feed(self):
        self.assertEqual(self.changed(feed(15, [3, 3])), {"waiting": [[64]] + [[0]] * 14 + [[3]]})

    def test_stop_and_clear(self):
        self.assertEqual(self.changed(stop(300)), {"stops": [[-4], [0], [0], [0]]})
        self.assertEqual(self.changed(stop(7)), {})
        self.assertEqual(self.changed(clear(7)), {"stops": [[-4], [-4], [-4], [0]]})


class Interface(unittest.TestCase):
    def test_how_answers_stand(self):
        calls = [1, 10, 2, 5, 6, 2, 10, 3, 3, 8, 6, 0, 8, 7, 1, 0]
        self.assertEqual(answers(calls), [1, 2, 4, 3, 5, 6, 0, 1, -1, 5, 0, 0, 0, 0, 0, 1, 0, 1, 0, 1, 0])

    def test_one_call(self):
        self.assertEqual(answers([0]), [1, 0])
        self.assertEqual(answers([6]), [5, 0, 0, 0, 0, 0])

    def test_numbers_of_calls_within_rows_are_words(self):
        self.assertEqual(ask([put(0, list(range(21))), get(0, 21)]), [[21], [21] + list(range(21))])

    def test_longest(self):
        words = [65535 - k for k in range(2000)]
        calls = [put(2000 * k, words) for k in range(29)]
        calls += [feed(0, words[:64]), put(65520, words[:900])]
        calls += [get(2000 * k + 1936, 64) for k in range(29)]
        numbers = [number for call in calls for number in call]
        self.assertEqual(len(calls), 60)
        self.assertLessEqual(len(numbers), 60000)
        expected = [[2000]] * 29 + [[64], [-1]] + [[64] + words[1936:]] * 29
        self.assertIsNone(first_difference(parted(answers(numbers)), expected))

    def test_60_new(self):
        self.assertEqual(answers([0] * 60), [1, 0] * 60)

    def test_kept_as_handed_in_and_answered_alike_again(self):
        calls = BUSY + [put(65519, [1, 2]), get(0, 64), told(), clear(7), new(), feed(3, [4, 4]), state()]
        numbers = [number for call in calls for number in call]
        copied = list(numbers)
        first = answers(numbers)
        self.assertEqual(numbers, copied)
        second = answers(numbers)
        self.assertEqual(numbers, copied)
        self.assertEqual(first, second)

    def test_what_is_given_back_is_the_callers_own(self):
        first = answers([2, 0, 2, 6])
        first.append(7)
        first[1] = 9
        self.assertEqual(answers([2, 0, 2, 6]), [3, 2, 0, 0, 5, 0, 0, 0, 0, 0])

    def test_a_list_of_whole_numbers(self):
        given = answers([number for call in BUSY + [state(), told(), reg(0), clear(1)] for number in call])
        self.assertIs(type(given), list)
        self.assertEqual({type(number) for number in given}, {int})


class Model:
    """The calls a second time, over what was ever put alone, so that both can be held against each other."""

    def __init__(self):
        self.renew()

    def renew(self):
        self.words, self.regs, self.pc, self.waiting, self.stops = {}, {}, 0, {}, []
        return [0]

    def put(self, p, row):
        places = range(p, p + len(row))
        if any(place >= 65520 for place in places):
            return [-1]
        self.words.update(zip(places, row))
        return [len(row)]

    def get(self, p, n):
        places = range(p, p + n)
        if n > 64 or any(place >= 65520 for place in places):
            return [-1]
        return [n] + [self.words.get(place, 0) for place in places]

    def feed(self, k, row):
        if k > 15:
            return [-1]
        if self.waiting.get(k, 0) + len(row) > 64:
            return [-3]
        self.waiting[k] = self.waiting.get(k, 0) + len(row)
        return [self.waiting[k]]

    def set(self, i, v):
        if i > 7:
            return [-1]
        self.regs[i] = v
        return [0]

    def go(self, p):
        self.pc = p
        return [0]

    def stop(self, p):
        if p in self.stops:
            return [0]
        if len(self.stops) == 16:
            return [-3]
        self.stops.append(p)
        return [1]

    def clear(self, p):
        if p not in self.stops:
            return [-4]
        self.stops.remove(p)
        return [0]


def some_call(chance, model):
    """A call and what the model answers to it."""
    kind = chance.randrange(11)
    p = chance.choice((0, 1, 2, 5, 40, 65500, 65518, 65519, 65520, 65535, chance.randrange(65536)))
    small = chance.choice((0, 3, 7, 8, 15, 16, 65535))
    v = chance.choice((0, 65535, chance.randrange(65536)))
    n = chance.choice((0, 1, 2, 20, 64, 65))
    row = [chance.randrange(65536) for k in range(chance.choice((0, 1, 2, 20, 33, 64)))]
    address = chance.randrange(20)
    if kind == 0 and chance.randrange(5):
        kind = 6
    return (
        lambda: (new(), model.renew()),
        lambda: (put(p, row), model.put(p, row)),
        lambda: (get(p, n), model.get(p, n)),
        lambda: (reg(small), [-1] if small > 7 else [model.regs.get(small, 0)]),
        lambda: (set_to(small, v), model.set(small, v)),
        lambda: (go(p), model.go(p)),
        lambda: (state(), [model.pc, 0, 0, 0, 0]),
        lambda: (feed(small, row), model.feed(small, row)),
        lambda: (told(), [0]),
        lambda: (stop(address), model.stop(address)),
        lambda: (clear(address), model.clear(address)),
    )[kind]()


class HeldAgainstAModel(unittest.TestCase):
    def test_many_lists_of_calls(self):
        for seed in range(400):
            chance = random.Random(seed)
            model = Model()
            pairs = [some_call(chance, model) for k in range(chance.randrange(1, 61))]
            given = ask([pair[0] for pair in pairs])
            self.assertIsNone(first_difference(given, [pair[1] for pair in pairs]), seed)

    def test_words_stay_words(self):
        for seed in range(400, 500):
            chance = random.Random(seed)
            model = Model()
            pairs = [some_call(chance, model) for k in range(60)]
            for answer in ask([pair[0] for pair in pairs]):
                refused = len(answer) == 1 and answer[0] in (-1, -3, -4)
                self.assertTrue(refused or all(0 <= number <= 65535 for number in answer), answer)


if __name__ == "__main__":
    unittest.main()
