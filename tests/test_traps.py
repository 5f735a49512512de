"""Traps: by an instruction, an interrupt, a word that's no instruction's; ret, from, cause, back, let, may (P3)."""

import unittest

from asking import ask, changes, feed, get, go, last, program, put, reg, run, set_to, state, trace

MAY = [set_to(7, 1), program(90, "let r7"), go(90), run(1)]
NONE = (0x1003, 0x4100, 0xB008, 0xC001, 0xD005, 0xD008, 0xD040, 0xE001, 0xF000, 0xFFFF)


class TrapInstruction(unittest.TestCase):
    def test_0_to_7(self):
        for k in range(8):
            before = [program(100, f"trap {k}"), go(100)]
            self.assertEqual(changes(before, run(1)), {"state": [2, 0, 101, 16 + k, 0]}, k)

    def test_may_is_0_then(self):
        before = MAY + [program(100, "trap 5"), go(100)]
        self.assertEqual(last(before + [state()]), [100, 1, 0, 0, 0])
        self.assertEqual(changes(before, run(1)), {"state": [2, 0, 101, 21, 0]})

    def test_at_the_memorys_ends(self):
        self.assertEqual(last([program(65519, "trap 1"), go(65519), run(1), state()]), [2, 0, 65520, 17, 0])
        self.assertEqual(last([program(0, "trap 1"), run(1), state()]), [2, 0, 1, 17, 0])

    def test_stands_over_the_last_trap(self):
        before = [program(0, "trap 1", "halt", "trap 2"), run(2)]
        self.assertEqual(last(before + [state()]), [2, 0, 3, 18, 0])

    def test_trap_8_and_above_is_no_instruction(self):
        for w in (0xB008, 0xB010, 0xBFFF):
            self.assertEqual(last([put(100, [w]), go(100), run(1), state()]), [2, 0, 100, 2, 0], w)


class NoInstruction(unittest.TestCase):
    def test_each_sort_of_word(self):
        for w in NONE:
            for before, may in (([], 0), (MAY, 1)):
                calls = before + [put(100, [w]), go(100)]
                self.assertEqual(last(calls + [state()]), [100, may, 0, 0, 0])
                self.assertEqual(changes(calls, run(1)), {"state": [2, 0, 100, 2, 0]}, w)

    def test_at_the_place_where_traps_go(self):
        calls = [put(2, [0xFFFF]), go(2), run(3), state()]
        self.assertEqual(ask(calls)[2:], [[3, 0], [2, 0, 2, 2, 0]])

    def test_at_the_memorys_last_word(self):
        self.assertEqual(last([put(65519, [0xFFFF]), go(65519), run(1), state()]), [2, 0, 65519, 2, 0])

    def test_every_word_either_traps_or_does_not(self):
        """A step from each word: cause 2 just where read says that it's no instruction's."""
        for start in range(0, 65536, 2048):
            words = list(range(start, start + 2048))
            for k in range(0, 2048, 12):
                some = words[k:k + 12]
                calls = []
                for w in some:
                    calls += [[14, w], put(100, [w]), go(100), trace(1)]
                rows = ask(calls)
                for place, w in enumerate(some):
                    read, traced = rows[4 * place], rows[4 * place + 3]
                    self.assertEqual(traced, [1, 100, w, 2 if read == [-4] else 0], w)


class Interrupt(unittest.TestCase):
    def test_where_may_is_1_and_the_line_is_up(self):
        before = MAY + [program(100, "ldi r1 5"), go(100)]
        self.assertEqual(changes(before, run(1, [0])), {"state": [2, 0, 100, 1, 0]})

    def test_the_line_up_while_may_is_0(self):
        before = [program(100, "ldi r1 5"), go(100)]
        expected = {"regs": [[0], [5]] + [[0]] * 6, "state": [101, 0, 0, 0, 0]}
        self.assertEqual(changes(before, run(1, [0])), expected)

    def test_the_line_not_up_while_may_is_1(self):
        before = MAY + [program(100, "ldi r1 5"), go(100)]
        expected = {"regs": [[0], [5]] + [[0]] * 5 + [[1]], "state": [101, 1, 0, 0, 0]}
        self.assertEqual(changes(before, run(1, [1])), expected)

    def test_in_the_place_of_each_sort_of_step(self):
        lines = ("halt", "trap 3", "ret", "st r1 r1 -1", "ld r1 r0 -1", "jal r1 5", "back r1", "let r0", "word 65535")
        for line in lines:
            before = MAY + [feed(15, [6]), program(100, line), go(100)]
            self.assertEqual(changes(before, run(1, [0])), {"state": [2, 0, 100, 1, 0]}, line)

    def test_with_pc_outside_and_at_2(self):
        before = MAY + [feed(0, [6]), go(65520)]
        self.assertEqual(changes(before, run(1, [0])), {"state": [2, 0, 65520, 1, 0]})
        self.assertEqual(last(MAY + [go(2), run(1, [0]), state()]), [2, 0, 2, 1, 0])

    def test_only_once_while_the_line_stays_up(self):
        before = MAY + [program(2, "addi r1 r1 1", "addi r1 r1 1"), go(100)]
        calls = before + [run(3, [0, 1, 2]), reg(1), state()]
        self.assertEqual(ask(calls)[-3:], [[3, 0], [2], [4, 0, 100, 1, 0]])

    def test_again_just_behind_ret_and_let(self):
        before = MAY + [program(2, "ret"), go(100)]
        calls = before + [run(3, [0, 1, 2]), state()]
        self.assertEqual(ask(calls)[-2:], [[3, 0], [2, 0, 100, 1, 0]])
        before = [set_to(1, 1), program(0, "let r1", "ldi r2 9"), run(2, [0, 1])]
        self.assertEqual(ask(before + [reg(2), state()])[-2:], [[0], [2, 0, 1, 1, 0]])

    def test_the_last_step_of_let_0_can_not_be_interrupted_after(self):
        before = MAY + [program(100, "let r0", "ldi r2 9"), go(100), run(2, [1])]
        self.assertEqual(ask(before + [reg(2), state()])[-2:], [[9], [102, 0, 0, 0, 0]])


class Ret(unittest.TestCase):
    def test_behind_each_trap(self):
        for k in range(8):
            before = [program(2, "ret"), program(100, f"trap {k}"), go(100), run(1)]
            self.assertEqual(changes(before, run(1)), {"state": [101, 1, 101, 16 + k, 0]}, k)

    def test_behind_an_interrupt(self):
        before = MAY + [program(2, "ret"), program(100, "ldi r1 5"), go(100), run(1, [0])]
        self.assertEqual(changes(before, run(1)), {"state": [100, 1, 100, 1, 0]})
        self.assertEqual(ask(before + [run(2), reg(1), state()])[-2:], [[5], [101, 1, 100, 1, 0]])

    def test_behind_no_instruction(self):
        before = [program(2, "ret"), put(100, [0xFFFF]), go(100), run(1)]
        self.assertEqual(changes(before, run(1)), {"state": [100, 1, 100, 2, 0]})

    def test_without_a_trap(self):
        self.assertEqual(changes([program(50, "ret"), go(50)], run(1)), {"state": [0, 1, 0, 0, 0]})

    def test_where_may_was_1(self):
        self.assertEqual(changes(MAY + [program(50, "ret"), go(50)], run(1)), {"state": [0, 1, 0, 0, 0]})

    def test_goes_where_back_tells(self):
        for place in (0, 7, 65519, 65520, 65535):
            before = [program(100, "trap 4"), program(2, "back r1", "ret"), set_to(1, place), go(100), run(2)]
            self.assertEqual(last(before + [state()]), [3, 0, place, 20, 0])
            self.assertEqual(changes(before, run(1)), {"state": [place, 1, place, 20, 0]}, place)


class OwnRegisters(unittest.TestCase):
    """from, cause, back, let, may."""

    def test_from(self):
        before = [program(100, "trap 4"), program(2, "from r3"), set_to(3, 9), go(100), run(1)]
        expected = {"regs": [[0]] * 3 + [[101]] + [[0]] * 4, "state": [3, 0, 101, 20, 0]}
        self.assertEqual(changes(before, run(1)), expected)

    def test_cause(self):
        for k in range(8):
            before = [program(100, f"trap {k}"), program(2, "cause r7"), go(100), run(1)]
            expected = {"regs": [[0]] * 7 + [[16 + k]], "state": [3, 0, 101, 16 + k, 0]}
            self.assertEqual(changes(before, run(1)), expected)
        before = MAY + [program(2, "cause r1"), go(100), run(2, [0])]
        self.assertEqual(ask(before + [reg(1), state()])[-2:], [[1], [3, 0, 100, 1, 0]])
        before = [put(100, [0xFFFF]), program(2, "cause r1"), go(100), run(2)]
        self.assertEqual(ask(before + [reg(1), state()])[-2:], [[2], [3, 0, 100, 2, 0]])

    def test_from_and_cause_at_first(self):
        calls = [set_to(1, 5), set_to(2, 5), program(0, "from r1", "cause r2"), run(2), reg(1), reg(2)]
        self.assertEqual(ask(calls)[4:], [[0], [0]])

    def test_back(self):
        before = [program(100, "back r3"), set_to(3, 65535), go(100)]
        self.assertEqual(changes(before, run(1)), {"state": [101, 0, 65535, 0, 0]})
        before = MAY + [program(100, "back r7"), go(100)]
        self.assertEqual(changes(before, run(1)), {"state": [101, 1, 1, 0, 0]})

    def test_let_takes_the_last_bit(self):
        for v in (1, 3, 255, 32769, 65535):
            before = [program(100, "let r3"), set_to(3, v), go(100)]
            self.assertEqual(changes(before, run(1)), {"state": [101, 1, 0, 0, 0]}, v)
            before = MAY + before
            self.assertEqual(changes(before, run(1)), {"state": [101, 1, 0, 0, 0]}, v)
        for v in (0, 2, 254, 32768, 65534):
            before = [program(100, "let r3"), set_to(3, v), go(100)]
            self.assertEqual(changes(before, run(1)), {"state": [101, 0, 0, 0, 0]}, v)
            before = MAY + before
            self.assertEqual(changes(before, run(1)), {"state": [101, 0, 0, 0, 0]}, v)

    def test_may(self):
        before = [program(100, "may r3"), set_to(3, 65535), go(100)]
        expected = {"regs": [[0]] * 8, "state": [101, 0, 0, 0, 0]}
        self.assertEqual(changes(before, run(1)), expected)
        expected = {"regs": [[0]] * 3 + [[1]] + [[0]] * 3 + [[1]], "state": [101, 1, 0, 0, 0]}
        self.assertEqual(changes(MAY + before, run(1)), expected)

    def test_all_of_them_in_a_handler(self):
        handler = ("from r1", "cause r2", "may r3", "addi r1 r1 1", "back r1", "ret")
        lines = ("trap 6", "halt", "ldi r4 44", "halt")
        before = [program(2, *handler), program(100, *lines), go(100), run(50)]
        self.assertEqual(ask(before + [reg(i) for i in range(5)] + [state(), get(100, 1)])[3:], [
            [9, 1], [0], [102], [22], [0], [44], [103, 1, 102, 22, 1], [1, 0xB006],
        ])


if __name__ == "__main__":
    unittest.main()
