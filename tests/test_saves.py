"""save and back."""

import unittest

from asking import (
    ask, back, changes, clear, feed, first_difference, get, go, last, load, look, new, program, put, reg, run, save,
    set_to, state, stop, told,
)

STOPS = (7, 8, 9)
# Something of each sort that is saved: memory, registers, all of state, what waits, what's to be told.
BUSY = [
    program(2, "halt"), put(40, [1, 2, 3]), put(65519, [4]), set_to(1, 65520), set_to(2, 77), set_to(6, 1),
    feed(0, [5, 6, 7]), feed(15, [8]), program(100, "st r2 r1 0", "ld r3 r1 0", "st r3 r1 4", "let r6", "trap 5"),
    go(100), stop(7), stop(8), run(9),
]
# Each sort of it is changed.
CHANGE = [
    put(40, [9, 9]), put(65519, [0]), set_to(1, 3), set_to(7, 12), feed(0, [1]), feed(4, [2, 2]), go(200),
    program(200, "ldi r1 -16", "st r1 r1 0", "ld r4 r1 0", "ldi r4 0", "let r4", "trap 1"), run(5), told(),
]


class SaveAndBack(unittest.TestCase):
    def test_as_they_were_saved(self):
        saved = look(BUSY, STOPS)
        self.assertEqual(saved["state"], [2, 0, 105, 21, 1])
        self.assertEqual(saved["told"], [2, 0, 77, 4, 5])
        self.assertEqual(saved["waiting"], {0: [6, 7], 15: [8]})
        changed = look(BUSY + CHANGE, STOPS)
        for name in ("state", "regs", "waiting", "told", "memory"):
            self.assertNotEqual(changed[name], saved[name], name)
        for k in range(4):
            self.assertEqual(look(BUSY + [save(k)] + CHANGE + [back(k)], STOPS), saved, k)

    def test_answers(self):
        self.assertEqual(ask([save(0), save(3), back(0), back(3), back(0)]), [[0]] * 5)

    def test_save_changes_nothing(self):
        for k in (0, 1, 2, 3, 4):
            self.assertEqual(changes(BUSY, save(k), STOPS), {}, k)

    def test_k_above_3(self):
        for k in (4, 5, 16, 65535):
            self.assertEqual(ask([save(k), back(k)]), [[-1], [-4]], k)
            self.assertEqual(changes(BUSY, back(k), STOPS), {}, k)

    def test_k_3(self):
        calls = [set_to(1, 5), save(3), set_to(1, 6), back(3), reg(1)]
        self.assertEqual(ask(calls), [[0], [0], [0], [0], [5]])

    def test_never_saved(self):
        for k in range(4):
            self.assertEqual(last([back(k)]), [-4], k)
            others = [save(other) for other in range(4) if other != k]
            self.assertEqual(last(others + [set_to(1, 5), back(k)]), [-4], k)
            self.assertEqual(changes(BUSY, back(k), STOPS), {}, k)

    def test_a_refused_save_saves_nothing(self):
        calls = [set_to(1, 5), save(0), set_to(1, 6), save(4), back(4), reg(1), back(0), reg(1)]
        self.assertEqual(ask(calls)[3:], [[-1], [-4], [6], [0], [5]])

    def test_each_k_is_its_own(self):
        calls = []
        for k in range(4):
            calls += [set_to(1, 50 + k), put(9, [60 + k]), save(k)]
        for k in (2, 0, 3, 1, 1):
            calls += [back(k), reg(1), get(9, 1)]
        expected = []
        for k in (2, 0, 3, 1, 1):
            expected += [[0], [50 + k], [1, 60 + k]]
        self.assertEqual(ask(calls)[12:], expected)

    def test_a_save_over_a_save(self):
        calls = BUSY + [save(1)] + CHANGE + [save(1), new(), back(1)]
        self.assertEqual(look(calls), {**look(BUSY + CHANGE), "stops": []})

    def test_what_was_at_first_can_be_saved(self):
        self.assertEqual(look([save(0)] + BUSY + [back(0)]), look([]))
        self.assertEqual(last([save(0)] + BUSY + [back(0), state()]), [0, 0, 0, 0, 0])


class ApartFromWhatIsSaved(unittest.TestCase):
    def test_changed_behind_save(self):
        saved = look(BUSY)
        for call in CHANGE:
            self.assertEqual(look(BUSY + [save(0), call, back(0)]), saved, call)

    def test_changed_behind_back(self):
        saved = look(BUSY)
        for call in CHANGE:
            self.assertEqual(look(BUSY + [save(0), new(), back(0), call, back(0)]), saved, call)

    def test_back_twice(self):
        saved = look(BUSY)
        self.assertEqual(look(BUSY + [save(2), back(2), back(2)]), saved)
        self.assertEqual(look(BUSY + [save(2)] + CHANGE + [back(2)] + CHANGE + [back(2)]), saved)

    def test_one_saved_from_another(self):
        calls = BUSY + [save(0), back(0), save(1)] + CHANGE[:3] + [back(0)] + CHANGE[3:7] + [back(1)]
        self.assertEqual(look(calls), look(BUSY))
        calls = [set_to(1, 5), save(0), save(1), set_to(1, 6), save(0), back(1), reg(1), back(0), reg(1)]
        self.assertEqual(ask(calls)[5:], [[0], [5], [0], [6]])

    def test_each_register(self):
        calls = [set_to(i, 10 + i) for i in range(8)] + [save(0)]
        calls += [set_to(i, 99) for i in range(8)] + [back(0)] + [reg(i) for i in range(8)]
        self.assertEqual(ask(calls)[-8:], [[10 + i] for i in range(8)])

    def test_each_place_outside(self):
        calls = [feed(k, [k, k]) for k in range(16)] + [save(0)] + [feed(k, [9]) for k in range(16)] + [back(0)]
        self.assertEqual(look(calls)["waiting"], {k: [k, k] for k in range(16)})

    def test_read_outside_behind_back(self):
        before = [feed(3, [5, 6]), set_to(1, 65523), program(0, "ld r2 r1 0"), save(0)]
        calls = before + [run(1), reg(2), feed(3, []), back(0), run(1), reg(2), feed(3, []), back(0), feed(3, [])]
        self.assertEqual(ask(calls)[4:], [[1, 0], [5], [1], [0], [1, 0], [5], [1], [0], [2]])

    def test_steps_behind_back_are_the_same_again(self):
        before = BUSY[:-1] + [save(0)]
        rows = ask(before + [run(9), state(), told(), back(0), run(9), state(), told()])[-7:]
        self.assertEqual(rows[:3], rows[4:])


class WhatIsToBeTold(unittest.TestCase):
    def test_comes_with_back(self):
        calls = BUSY + [save(0), told(), told(), back(0), told(), told(), back(0), told()]
        tells = [2, 0, 77, 4, 5]
        self.assertEqual(ask(calls)[-8:], [[0], tells, [0], [0], tells, [0], [0], tells])

    def test_what_was_told_already_does_not(self):
        self.assertEqual(ask(BUSY + [told(), save(0), back(0), told()])[-4:], [[2, 0, 77, 4, 5], [0], [0], [0]])

    def test_put_outside_behind_save(self):
        calls = BUSY + [save(0), go(100), run(1), told(), back(0), told()]
        self.assertEqual(ask(calls)[-3:], [[3, 0, 77, 4, 5, 0, 77], [0], [2, 0, 77, 4, 5]])

    def test_put_outside_behind_back(self):
        calls = BUSY + [save(0), new(), back(0), go(100), run(1), told(), back(0), told()]
        self.assertEqual(ask(calls)[-3:], [[3, 0, 77, 4, 5, 0, 77], [0], [2, 0, 77, 4, 5]])

    def test_not_told_yet_is_gone_behind_back(self):
        self.assertEqual(last([save(0)] + BUSY + [back(0), told()]), [0])


class StopsAndNew(unittest.TestCase):
    def test_stops_stay_as_they_are_now(self):
        calls = [stop(7), save(0), stop(8), clear(7), stop(9), back(0)]
        self.assertEqual(look(calls, STOPS)["stops"], [[-4], [0], [0]])

    def test_back_behind_new_has_no_stops(self):
        self.assertEqual(look(BUSY + [save(0), new(), back(0)], STOPS), {**look(BUSY), "stops": [[-4]] * 3})

    def test_back_leaves_16_stops(self):
        calls = [save(0)] + [stop(p) for p in range(16)] + [back(0), stop(16), stop(15)]
        self.assertEqual(ask(calls)[-3:], [[0], [-3], [0]])

    def test_new_keeps_what_is_saved(self):
        calls = BUSY + [save(1), new(), new()]
        self.assertEqual(look(calls), look([]))
        self.assertEqual(ask(calls + [back(0), back(1), back(2)])[-3:], [[-4], [0], [-4]])

    def test_new_behind_back_does_not_reach_it(self):
        calls = BUSY + [save(1), back(1), new(), back(1)]
        self.assertEqual(look(calls), look(BUSY))

    def test_a_halt_comes_back(self):
        calls = [program(0, "halt"), run(1), save(0), go(5), back(0), state(), run(1)]
        self.assertEqual(ask(calls)[-2:], [[0, 0, 0, 0, 1], [0, 1]])
        calls = [program(0, "halt"), save(0), run(1), back(0), state(), run(1)]
        self.assertEqual(ask(calls)[-2:], [[0, 0, 0, 0, 0], [1, 1]])


class Longest(unittest.TestCase):
    def test_many_saves_and_backs(self):
        self.assertEqual(ask([save(k % 4) for k in range(60)]), [[0]] * 60)
        self.assertEqual(ask([save(0)] + [back(0)] * 59), [[0]] * 60)
        self.assertEqual(ask([save(k // 2 % 4) if k % 2 == 0 else back(k // 2 % 4) for k in range(60)]), [[0]] * 60)

    def test_saves_and_backs_with_much_to_be_told(self):
        loop = program(0, "st r1 r2 0", "jal r0 -2")
        calls = [set_to(1, 5), set_to(2, 65520), loop, run(20000), save(0)] + [told(), back(0)] * 27
        rows = ask(calls)
        much = [10000] + [0, 5] * 10000
        self.assertEqual(rows[:5], [[0], [0], [2], [20000, 0], [0]])
        self.assertIsNone(first_difference(rows[5:], [much, [0]] * 27))

    def test_loads_saves_and_runs(self):
        calls = []
        for k in range(12):
            calls += [load(1000 * k, "ldi r1 1\n" * 444), save(k % 4), run(1600), back((k + 1) % 4)]
        self.assertLessEqual(sum(len(call) for call in calls), 60000)
        rows = ask(calls)
        self.assertEqual(rows[0::4], [[444]] * 12)
        self.assertEqual(rows[1::4], [[0]] * 12)
        self.assertEqual(rows[2::4], [[1600, 0]] * 12)
        self.assertEqual(rows[3::4], [[-4]] * 3 + [[0]] * 9)


if __name__ == "__main__":
    unittest.main()
