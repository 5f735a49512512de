"""reg, set, go, state."""

import unittest

from asking import ask, go, last, look, reg, set_to, state

from chiphouse.machine import Machine, go_to, tell_state


class RegAndSet(unittest.TestCase):
    def test_all_are_0_at_first(self):
        self.assertEqual(ask([reg(i) for i in range(8)]), [[0]] * 8)

    def test_each_is_its_own(self):
        calls = [set_to(i, 100 + i) for i in range(8)] + [reg(i) for i in range(8)]
        self.assertEqual(ask(calls), [[0]] * 8 + [[100 + i] for i in range(8)])

    def test_least_and_greatest_word(self):
        for i in (0, 7):
            calls = [set_to(i, 65535), reg(i), set_to(i, 0), reg(i)]
            self.assertEqual(ask(calls), [[0], [65535], [0], [0]], i)

    def test_i_above_7(self):
        for i in (8, 9, 65535):
            self.assertEqual(ask([reg(i), set_to(i, 3)]), [[-1], [-1]], i)

    def test_a_refused_set_changes_nothing(self):
        before = [set_to(i, 50 + i) for i in range(8)]
        for i in (8, 15, 65535):
            self.assertEqual(look(before + [set_to(i, 9)]), look(before), i)


class GoAndState(unittest.TestCase):
    def test_at_first(self):
        self.assertEqual(last([state()]), [0, 0, 0, 0, 0])

    def test_go(self):
        for p in (0, 1, 65519, 65520, 65535):
            self.assertEqual(ask([go(7), go(p), state()]), [[0], [0], [p, 0, 0, 0, 0]], p)

    def test_order_of_the_five(self):
        machine = Machine()
        machine.pc = 11
        machine.may = 1
        machine.came_from = 33
        machine.cause = 44
        machine.halted = 1
        self.assertEqual(tell_state(machine), [11, 1, 33, 44, 1])

    def test_go_ends_a_halt_and_leaves_the_rest(self):
        machine = Machine()
        machine.may = 1
        machine.came_from = 33
        machine.cause = 44
        machine.halted = 1
        machine.regs[3] = 5
        self.assertEqual(go_to(machine, 9), [0])
        self.assertEqual(tell_state(machine), [9, 1, 33, 44, 0])
        self.assertEqual(machine.regs, [0, 0, 0, 5, 0, 0, 0, 0])


if __name__ == "__main__":
    unittest.main()
