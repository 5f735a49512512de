"""run and trace."""

import random
import unittest

from asking import (
    ask, changes, feed, first_difference, get, go, last, look, new, program, put, reg, run, set_to, state, stop, told,
    trace,
)

COUNT = program(0, "addi r1 r1 1", "addi r1 r1 1", "addi r1 r1 1", "jal r0 -4")


class Run(unittest.TestCase):
    def test_n_0(self):
        self.assertEqual(ask([run(0), state()]), [[0, 0], [0, 0, 0, 0, 0]])
        self.assertEqual(last([COUNT, stop(0), run(0)]), [0, 0])
        self.assertEqual(last([COUNT, stop(0), run(0, [0])]), [0, 0])
        self.assertEqual(changes([COUNT, stop(0)], run(0, [0]), (0,)), {})

    def test_n_0_while_halted(self):
        self.assertEqual(ask([program(0, "halt"), run(1), run(0), stop(0), run(0)])[1:], [[1, 1], [0, 1], [1], [0, 1]])

    def test_while_halted(self):
        self.assertEqual(ask([program(0, "halt"), run(1), run(5), run(5, [0])])[1:], [[1, 1], [0, 1], [0, 1]])

    def test_n_steps(self):
        for n in (1, 2, 3, 4, 5, 100, 20000):
            calls = [COUNT, run(n), reg(1), state()]
            self.assertEqual(ask(calls)[1:3], [[n, 0], [n - n // 4]], n)

    def test_halted_before_at_and_behind_the_nth_step(self):
        before = [program(0, "ldi r1 1", "ldi r1 2", "halt")]
        for n, answer in ((1, [1, 0]), (2, [2, 0]), (3, [3, 1]), (4, [3, 1]), (65, [3, 1])):
            self.assertEqual(last(before + [run(n)]), answer, n)

    def test_a_stop_before_the_first_step_does_not_matter(self):
        self.assertEqual(ask([COUNT, stop(0), run(1), reg(1)])[2:], [[1, 0], [1]])
        self.assertEqual(ask([COUNT, stop(0), run(3), reg(1)])[2:], [[3, 0], [3]])

    def test_a_stop_before_a_later_step(self):
        calls = [COUNT, stop(2), run(9), reg(1), state(), run(9), reg(1), state()]
        expected = [[2, 2], [2], [2, 0, 0, 0, 0], [4, 2], [5], [2, 0, 0, 0, 0]]
        self.assertEqual(ask(calls)[2:], expected)

    def test_the_first_stop_again_in_the_same_run(self):
        self.assertEqual(ask([COUNT, stop(0), run(9), state()])[2:], [[4, 2], [0, 0, 0, 0, 0]])

    def test_a_jump_to_itself_at_a_stop(self):
        calls = [program(5, "jal r0 -1"), go(5), stop(5), run(9), run(1), run(2)]
        self.assertEqual(ask(calls)[3:], [[1, 2], [1, 0], [1, 2]])

    def test_a_stop_behind_the_nth_step(self):
        self.assertEqual(ask([COUNT, stop(2), run(2), run(4)])[2:], [[2, 0], [4, 0]])
        self.assertEqual(ask([COUNT, stop(0), run(4), run(5)])[2:], [[4, 0], [4, 2]])

    def test_halted_at_a_stop(self):
        self.assertEqual(ask([program(0, "halt"), stop(0), run(9), run(9)])[2:], [[1, 1], [0, 1]])
        calls = [program(0, "ldi r1 1", "halt"), stop(1), run(9), run(9), run(9)]
        self.assertEqual(ask(calls)[2:], [[1, 2], [1, 1], [0, 1]])
        self.assertEqual(ask([program(0, "ldi r1 1", "halt"), stop(1), run(1), run(1)])[2:], [[1, 0], [1, 1]])

    def test_a_stop_where_a_trap_goes(self):
        calls = [program(10, "trap 1"), go(10), stop(2), run(9), state()]
        self.assertEqual(ask(calls)[3:], [[1, 2], [2, 0, 11, 17, 0]])

    def test_a_stop_outside_and_at_65535(self):
        self.assertEqual(ask([go(65519), stop(65520), run(9), state()])[2:], [[1, 2], [65520, 0, 0, 0, 0]])
        self.assertEqual(ask([go(65534), stop(65535), run(9), run(9)])[2:], [[1, 2], [9, 0]])
        self.assertEqual(ask([go(65534), stop(0), run(9), state()])[2:], [[2, 2], [0, 0, 0, 0, 0]])

    def test_16_stops_and_cleared_ones(self):
        before = [stop(p) for p in range(1, 17)]
        calls = before + [run(9), run(9), [10, 3], run(9), state()]
        self.assertEqual(ask(calls)[16:], [[1, 2], [1, 2], [0], [2, 2], [4, 0, 0, 0, 0]])

    def test_a_stop_does_not_hold_an_interrupt_up(self):
        before = [set_to(1, 1), program(0, "let r1", "ldi r2 2"), stop(1), run(1)]
        self.assertEqual(ask(before + [run(9, [0]), state()])[4:][:1], [[9, 0]])
        calls = before + [stop(2), run(9, [0]), state()]
        self.assertEqual(ask(calls)[5:], [[1, 2], [2, 0, 1, 1, 0]])


class Ups(unittest.TestCase):
    before = [set_to(7, 1), program(2, "addi r1 r1 1", "ret"), program(90, "let r7"), go(90), run(1)]

    def counted(self, n, ups):
        """Behind a run of n steps at words that are 0: how often the handler was gone through, and pc."""
        rows = ask(self.before + [go(100), run(n, ups), reg(1), state()])
        self.assertEqual(rows[-3], [n, 0])
        return rows[-2][0], rows[-1][0]

    def test_none(self):
        self.assertEqual(self.counted(10, []), (0, 110))

    def test_one(self):
        for number in range(8):
            self.assertEqual(self.counted(10, [number]), (1, 107), number)

    def test_at_the_last_two_steps(self):
        self.assertEqual(self.counted(10, [8]), (1, 3))
        self.assertEqual(self.counted(10, [9]), (0, 2))

    def test_at_n_and_above(self):
        for number in (10, 11, 12, 65535):
            self.assertEqual(self.counted(10, [number]), (0, 110), number)

    def test_a_number_that_stands_twice(self):
        self.assertEqual(self.counted(10, [4, 4]), (1, 107))
        self.assertEqual(self.counted(10, [4, 0, 4, 0, 4]), (2, 104))

    def test_in_any_order(self):
        self.assertEqual(self.counted(10, [7, 3, 0]), self.counted(10, [0, 3, 7]))
        self.assertEqual(self.counted(10, [7, 3, 0]), (3, 101))

    def test_while_may_is_0(self):
        for number in (1, 2):
            self.assertEqual(self.counted(10, [0, number]), (1, 107), number)
        self.assertEqual(self.counted(10, [0, 1, 2, 3]), (2, 104))

    def test_64_of_them(self):
        self.assertEqual(self.counted(70, list(range(64))), (22, 104))
        self.assertEqual(self.counted(70, list(range(63, -1, -1))), (22, 104))
        self.assertEqual(self.counted(2000, list(range(1000, 1064)))[0], 22)

    def test_counted_from_each_runs_first_step(self):
        calls = self.before + [go(100), run(5, [7]), run(5, [2]), state()]
        self.assertEqual(ask(calls)[-3:], [[5, 0], [5, 0], [107, 1, 107, 1, 0]])

    def test_not_kept_for_the_next_run(self):
        calls = self.before + [go(100), run(2, [3, 4, 5]), run(5), state()]
        self.assertEqual(last(calls), [107, 1, 0, 0, 0])

    def test_the_line_up_behind_a_stop_is_not_seen(self):
        calls = self.before + [go(100), stop(102), run(5, [2]), state(), run(3), state()]
        self.assertEqual(ask(calls)[-4:], [[2, 2], [102, 1, 0, 0, 0], [3, 0], [105, 1, 0, 0, 0]])


class Trace(unittest.TestCase):
    def test_n_0(self):
        self.assertEqual(ask([trace(0), trace(0, [0]), state()]), [[0], [0], [0, 0, 0, 0, 0]])
        self.assertEqual(changes([COUNT], trace(0, [0])), {})

    def test_n_64(self):
        rows = [part for k in range(64) for part in (k, 0, 0)]
        self.assertEqual(ask([trace(64), state()]), [[64] + rows, [64, 0, 0, 0, 0]])

    def test_n_above_64(self):
        for n in (65, 66, 255, 256, 20000):
            self.assertEqual(last([COUNT, trace(n)]), [-1], n)
            self.assertEqual(changes([COUNT], trace(n)), {}, n)
        self.assertEqual(ask([program(0, "halt"), run(1), trace(65), trace(64)])[2:], [[-1], [0]])

    def test_three_sorts_of_steps(self):
        before = [set_to(1, 1), program(0, "let r1", "ldi r2 5", "ret"), put(50, [0xFFFF]), go(0)]
        given = ask(before + [trace(3, [1]), state(), go(50), trace(2), state()])[4:]
        self.assertEqual(given[0], [3, 0, 0xD203, 0, 1, 0x3405, 1, 2, 0xC000, 0])
        self.assertEqual(given[1], [1, 1, 1, 1, 0])
        self.assertEqual(given[3], [2, 50, 0xFFFF, 2, 2, 0xC000, 0])
        self.assertEqual(given[4], [50, 1, 50, 2, 0])

    def test_the_word_at_pc_at_an_interrupt(self):
        may = [set_to(1, 1), program(0, "let r1"), run(1)]
        for word in (0, 0xE000, 0xFFFF, 0xB003):
            self.assertEqual(last(may + [put(100, [word]), go(100), trace(1, [0])]), [1, 100, word, 1], word)
        self.assertEqual(last(may + [feed(3, [7]), go(65523), trace(1, [0])]), [1, 65523, 0, 1])

    def test_pc_outside_where_words_wait(self):
        before = [feed(0, [0xFFFF, 5]), feed(15, [0xE000]), go(65520)]
        self.assertEqual(last(before + [trace(2)]), [2, 65520, 0, 0, 65521, 0, 0])
        self.assertEqual(changes(before, trace(2)), {"state": [65522, 0, 0, 0, 0]})
        self.assertEqual(last([feed(15, [0xE000]), go(65535), trace(2)]), [2, 65535, 0, 0, 0, 0, 0])

    def test_halted_before_n(self):
        before = [program(0, "ldi r1 1", "halt")]
        self.assertEqual(last(before + [trace(64)]), [2, 0, 0x3201, 0, 1, 0xE000, 0])
        self.assertEqual(last(before + [trace(2)]), [2, 0, 0x3201, 0, 1, 0xE000, 0])
        self.assertEqual(ask(before + [trace(1), trace(64), trace(64)])[1:], [
            [1, 0, 0x3201, 0], [1, 1, 0xE000, 0], [0],
        ])

    def test_stops_do_not_matter(self):
        stops = [stop(p) for p in range(6)]
        self.assertEqual(ask(stops + [COUNT, trace(6)])[-1], ask([COUNT, trace(6)])[-1])
        self.assertEqual(last(stops + [COUNT, trace(6)])[0], 6)

    def test_the_word_as_it_was_before_the_step(self):
        before = [set_to(1, 0xE000), set_to(2, 1), program(0, "st r1 r2 -1", "st r1 r2 1")]
        self.assertEqual(last(before + [trace(9)]), [3, 0, 0x62BF, 0, 1, 0x6281, 0, 2, 0xE000, 0])

    def test_ups(self):
        may = [set_to(1, 1), program(2, "ret"), program(90, "let r1"), go(90), run(1)]
        given = last(may + [trace(5, [1, 1, 9, 65535])])
        self.assertEqual(given, [5, 91, 0, 0, 92, 0, 1, 2, 0xC000, 0, 92, 0, 0, 93, 0, 0])
        given = last([trace(3, [0, 1, 2])])
        self.assertEqual(given, [3, 0, 0, 0, 1, 0, 0, 2, 0, 0])

    def test_traced_steps_do_what_run_does(self):
        lines = ("ldi r1 -16", "st r2 r1 3", "ld r3 r1 4", "add r2 r2 r3", "trap 1", "jal r0 -5")
        before = [program(10, *lines), program(2, "addi r4 r4 1", "ret"), feed(4, [7, 8]), go(10)]
        for n in (1, 5, 30, 64):
            for ups in ((), (3, 9)):
                self.assertEqual(look(before + [trace(n, ups)]), look(before + [run(n, ups)]), (n, ups))


class OneRunOrSeveral(unittest.TestCase):
    """P4."""

    lines = (
        "ldi r7 1", "let r7", "ld r1 r6 0", "st r1 r6 1", "add r2 r2 r1", "trap 2", "addi r5 r5 -1", "xor r3 r3 r5",
        "bnz r5 -7", "st r3 r5 -20", "word 65535", "jal r4 -10",
    )
    before = [
        program(2, "addi r0 r0 1", "from r4", "bnz r0 1", "halt", "cause r4", "addi r4 r4 -2", "bnz r4 2", "from r4",
                "jr r4 r4 1", "ret"),
        program(100, *lines), feed(0, list(range(64))), set_to(6, 65520), set_to(5, 9), go(100),
    ]

    def test_in_parts(self):
        whole = look(self.before + [run(300)])
        for parts in ([150, 150], [1, 299], [299, 1], [0, 300, 0], [10] * 30, [100, 99, 98, 3]):
            self.assertEqual(sum(parts), 300)
            self.assertEqual(look(self.before + [run(n) for n in parts]), whole, parts)

    def test_step_by_step(self):
        for n in range(1, 41):
            one = ask(self.before + [run(n), state(), told()] + [reg(i) for i in range(8)])
            several = ask(self.before + [run(1)] * n + [state(), told()] + [reg(i) for i in range(8)])
            self.assertEqual(one[-10:], several[-10:], n)

    def test_with_the_line_up(self):
        ups = [3, 17, 18, 40, 77, 99]
        whole = look(self.before + [run(100, ups)])
        for cut in (1, 3, 4, 17, 18, 50, 99):
            parts = [run(cut, [k for k in ups if k < cut]), run(100 - cut, [k - cut for k in ups if k >= cut])]
            self.assertEqual(look(self.before + parts), whole, cut)

    def test_over_stops(self):
        stops = [stop(105), stop(2)]
        whole = look(self.before + [run(60)], (105, 2))
        rows = ask(self.before + stops + [run(60)] * 40)[-40:]
        done, parts = 0, []
        for row in rows:
            if done + row[0] > 60:
                break
            done += row[0]
            parts.append(row[0])
        rest = [run(60)] * len(parts) + [run(60 - done)]
        found = look(self.before + stops + rest, (105, 2))
        self.assertGreater(len(parts), 3)
        self.assertEqual(found["stops"], [[0], [0]])
        self.assertEqual({**found, "stops": whole["stops"]}, whole)

    def test_other_calls_between(self):
        whole = look(self.before + [run(60)])
        between = [state(), get(0, 64), reg(1), stop(101), [10, 101], put(5, []), feed(0, [])]
        found = look(self.before + [run(20)] + between + [run(20)] + between + [run(20)])
        self.assertEqual(found, whole)


class Longest(unittest.TestCase):
    def test_20000_steps_in_58_runs(self):
        sizes = [345] * 57 + [20000 - 345 * 57]
        given = ask([COUNT] + [run(n, list(range(64))) for n in sizes] + [reg(1)])
        self.assertEqual(given[1:-1], [[n, 0] for n in sizes])
        self.assertEqual(given[-1], [15000])

    def test_20000_steps_of_nothing(self):
        self.assertEqual(ask([run(20000), state()]), [[20000, 0], [20000, 0, 0, 0, 0]])

    def test_59_traces(self):
        given = ask([COUNT] + [trace(64)] * 59)
        rows = [part for k in range(16) for part in (0, 0x2241, 0, 1, 0x2241, 0, 2, 0x2241, 0, 3, 0x91FC, 0)]
        self.assertIsNone(first_difference(given[1:], [[64] + rows] * 59))


class Changed(unittest.TestCase):
    """P2: behind a step at most one register and one memory word is another, and all are words."""

    def test_some_steps(self):
        chance = random.Random(5)
        for turn in range(60):
            words = [chance.randrange(65536) for k in range(200)]
            calls = [put(0, words), go(chance.randrange(200)), feed(3, [65535])]
            calls += [set_to(i, chance.choice((0, 1, 3, 199, 65519, 65523, 65535))) for i in range(8)]
            rows = ask(calls + ([reg(i) for i in range(8)] + [run(1)]) * 4 + [reg(i) for i in range(8)])[len(calls):]
            regs = [[row[0] for row in rows[9 * k:9 * k + 8]] for k in range(5)]
            for old, later in zip(regs, regs[1:]):
                self.assertLessEqual(sum(1 for x, y in zip(old, later) if x != y), 1)
                self.assertTrue(all(0 <= v <= 65535 for v in later))

    def test_some_steps_in_memory(self):
        chance = random.Random(6)
        for turn in range(20):
            calls = [set_to(i, chance.randrange(65536)) for i in range(8)]
            word = 0x6000 + chance.randrange(4096)
            calls += [put(30, [word]), go(30)]
            old = look(calls)
            seen = look(calls + [run(1)])
            places = set(old["memory"]) | set(seen["memory"])
            other = [p for p in places if old["memory"].get(p, 0) != seen["memory"].get(p, 0)]
            self.assertLessEqual(len(other), 1)
            self.assertTrue(all(0 <= v <= 65535 for v in seen["memory"].values()))


class BehindNew(unittest.TestCase):
    def test_all_is_as_at_first(self):
        busy = OneRunOrSeveral.before + [stop(3), run(60, [5]), program(60, "halt"), go(60), run(1)]
        self.assertEqual(last(busy + [state()])[4], 1)
        self.assertNotEqual(last(busy + [told()]), [0])
        self.assertEqual(look(busy + [new()], (3,)), look([], (3,)))


if __name__ == "__main__":
    unittest.main()
