"""reg, set, go, state."""

import unittest

from asking import ask, changes, go, last, look, program, reg, run, set_to, state


class RegAndSet(unittest.TestCase):
    def test_all_are_0_at_first(self):
        self.assertEqual(ask([reg(i) for i in range(8)]), [[0]] * 8)

    def test_each_is_its_own(self):
        calls = [set_to(i, 100 + i) for i in range(8)] + [reg(i) for i in range(8)]
        self.assertEqual(ask(calls), [[0]] * 8 + [[100 + i] for i in range(8)])

    def test_least_and_greatest_word(self):
        for i in (0, 7):
            calls = [set_to(i, 65535), reg(i), set_to(i, 0), reg(i)]
            self.assertEqual(ask(calls), [[0], [65535], [0], [0]], i)

    def test_i_above_7(self):
        for i in (8, 9, 65535):
            self.assertEqual(ask([reg(i), set_to(i, 3)]), [[-1], [-1]], i)

    def test_a_refused_set_changes_nothing(self):
        before = [set_to(i, 50 + i) for i in range(8)]
        for i in (8, 15, 65535):
            self.assertEqual(look(before + [set_to(i, 9)]), look(before), i)


class GoAndState(unittest.TestCase):
    def test_at_first(self):
        self.assertEqual(last([state()]), [0, 0, 0, 0, 0])

    def test_go(self):
        for p in (0, 1, 65519, 65520, 65535):
            self.assertEqual(ask([go(7), go(p), state()]), [[0], [0], [p, 0, 0, 0, 0]], p)

    def test_order_of_the_five(self):
        before = [set_to(1, 33), program(0, "back r1", "trap 5", "ldi r2 1", "let r2", "halt"), run(4)]
        self.assertEqual(last(before + [state()]), [4, 1, 2, 21, 0])
        self.assertEqual(last(before + [run(1), state()]), [4, 1, 2, 21, 1])
        self.assertEqual(last(before[:2] + [run(1), state()]), [1, 0, 33, 0, 0])
        self.assertEqual(last(before[:2] + [program(2, "halt"), run(3), state()]), [2, 0, 2, 21, 1])

    def test_go_ends_a_halt_and_leaves_the_rest(self):
        before = [set_to(3, 5), program(0, "trap 5", "halt", "ldi r2 1", "let r2", "halt"), run(4)]
        self.assertEqual(last(before + [state()]), [4, 1, 1, 21, 1])
        for p in (0, 4, 9, 65535):
            self.assertEqual(changes(before, go(p)), {"state": [p, 1, 1, 21, 0]}, p)


if __name__ == "__main__":
    unittest.main()
