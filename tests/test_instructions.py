"""What each instruction of the table does in a step, and what it leaves (P2)."""

import unittest

from asking import (
    ask, changes, feed, get, go, last, look, program, put, reg, run, set_to, state, stop, told, trace,
)


class Steps(unittest.TestCase):
    """Asks for one step of one instruction; each register and all of state is looked at behind it."""

    def step(self, line, regs=None, at=100, before=()):
        filled = {i: 1000 + i for i in range(8)}
        filled.update(regs or {})
        calls = list(before) + [set_to(i, v) for i, v in filled.items()] + [program(at, line), go(at), run(1)]
        rows = ask(calls + [reg(i) for i in range(8)] + [state()])[len(calls) - 1:]
        self.assertIn(rows[0], ([1, 0], [1, 1]), line)
        return filled, [row[0] for row in rows[1:9]], rows[9]

    def does(self, line, regs, changed, pc=101, at=100):
        filled, found, after = self.step(line, regs, at)
        filled.update(changed)
        self.assertEqual(found, [filled[i] for i in range(8)], (line, regs))
        self.assertEqual(after, [pc, 0, 0, 0, 0], (line, regs))

    def makes(self, name, x, y, result):
        """In three registers, and with d = a, d = b, a = b and all the same where that can be."""
        self.does(f"{name} r1 r2 r3", {2: x, 3: y}, {1: result})
        self.does(f"{name} r2 r2 r3", {2: x, 3: y}, {2: result})
        self.does(f"{name} r3 r2 r3", {2: x, 3: y}, {3: result})
        self.does(f"{name} r7 r0 r6", {0: x, 6: y}, {7: result})
        if x == y:
            self.does(f"{name} r4 r5 r5", {5: x}, {4: result})
            self.does(f"{name} r5 r5 r5", {5: x}, {5: result})


class Sums(Steps):
    def test_add(self):
        for x, y, z in ((0, 0, 0), (2, 3, 5), (3, 3, 6), (65535, 1, 0), (65535, 65535, 65534), (32768, 32768, 0),
                        (40000, 30000, 4464), (65535, 0, 65535), (32767, 1, 32768)):
            self.makes("add", x, y, z)

    def test_sub(self):
        for x, y, z in ((5, 3, 2), (3, 5, 65534), (0, 1, 65535), (0, 65535, 1), (7, 7, 0), (65535, 65535, 0),
                        (0, 32768, 32768), (65535, 0, 65535)):
            self.makes("sub", x, y, z)

    def test_bits(self):
        x, y = 0b1100110000001111, 0b1010101000000101
        self.makes("and", x, y, 0b1000100000000101)
        self.makes("or", x, y, 0b1110111000001111)
        self.makes("xor", x, y, 0b0110011000001010)
        for name, same in (("and", 65535), ("or", 65535), ("xor", 0)):
            self.makes(name, 65535, 65535, same)
            self.makes(name, 0, 0, 0)
        for name, result in (("and", 0), ("or", 65535), ("xor", 65535)):
            self.makes(name, 65535, 0, result)
            self.makes(name, 0, 65535, result)

    def test_addi(self):
        for x, i6, z in ((5, 0, 5), (5, 31, 36), (5, -32, 65509), (32, -32, 0), (31, -32, 65535), (65535, 1, 0),
                         (65535, 31, 30), (65505, 31, 0), (0, -1, 65535), (0, -32, 65504), (32767, 1, 32768)):
            self.does(f"addi r1 r2 {i6}", {2: x}, {1: z})
            self.does(f"addi r2 r2 {i6}", {2: x}, {2: z})


class Shifts(Steps):
    def test_shl(self):
        for x, y, z in ((0b1011, 0, 0b1011), (0b1011, 1, 0b10110), (3, 15, 32768), (2, 15, 0), (65535, 4, 65520),
                        (65535, 15, 32768), (5, 16, 5), (5, 17, 10), (5, 65535, 32768), (5, 32, 5), (0, 9, 0)):
            self.makes("shl", x, y, z)

    def test_shr(self):
        for x, y, z in ((65535, 0, 65535), (65535, 1, 32767), (65535, 15, 1), (32767, 15, 0), (65535, 16, 65535),
                        (65535, 17, 32767), (32768, 15, 1), (5, 1, 2), (5, 3, 0), (40000, 65535, 1), (7, 48, 7)):
            self.makes("shr", x, y, z)

    def test_sar(self):
        for x, y, z in ((5, 1, 2), (32767, 14, 1), (32767, 15, 0), (32768, 0, 32768), (32768, 1, 49152),
                        (32768, 15, 65535), (65535, 1, 65535), (65535, 15, 65535), (65533, 1, 65534),
                        (65532, 1, 65534), (32769, 15, 65535), (32768, 16, 32768), (65528, 17, 65532),
                        (40000, 65535, 65535), (33000, 3, 61469)):
            self.makes("sar", x, y, z)

    def test_shifted_by_itself(self):
        for w in (0, 1, 15, 16, 17, 32783, 65535, 40003):
            k = w % 16
            self.makes("shl", w, w, w * 2 ** k % 65536)
            self.makes("shr", w, w, w // 2 ** k)
            signed = w - 65536 if w >= 32768 else w
            self.makes("sar", w, w, signed // 2 ** k % 65536)

    def test_every_shift(self):
        for k in range(16):
            self.does("shl r1 r2 r3", {2: 1, 3: k}, {1: 2 ** k})
            self.does("shr r1 r2 r3", {2: 65535, 3: k}, {1: 65535 // 2 ** k})
            self.does("sar r1 r2 r3", {2: 32768, 3: k}, {1: 65536 - 2 ** (15 - k)})


class Comparisons(Steps):
    def test_lts(self):
        for x, y, z in ((1, 2, 1), (2, 1, 0), (2, 2, 0), (32767, 32768, 0), (32768, 32767, 1), (65535, 0, 1),
                        (0, 65535, 0), (32768, 65535, 1), (65535, 32768, 0), (32768, 32768, 0), (0, 32767, 1),
                        (0, 32768, 0), (32768, 0, 1), (65535, 65535, 0)):
            self.makes("lts", x, y, z)

    def test_ltu(self):
        for x, y, z in ((1, 2, 1), (2, 1, 0), (2, 2, 0), (32767, 32768, 1), (32768, 32767, 0), (65535, 0, 0),
                        (0, 65535, 1), (65534, 65535, 1), (65535, 65535, 0), (0, 0, 0)):
            self.makes("ltu", x, y, z)

    def test_eq(self):
        for x, y, z in ((1, 2, 0), (2, 2, 1), (0, 0, 1), (65535, 65535, 1), (65535, 0, 0), (0, 32768, 0)):
            self.makes("eq", x, y, z)


class NumbersIntoRegisters(Steps):
    def test_ldi(self):
        for i9, z in ((0, 0), (1, 1), (255, 255), (-1, 65535), (-256, 65280), (-255, 65281)):
            self.does(f"ldi r1 {i9}", {}, {1: z})
            self.does(f"ldi r7 {i9}", {7: 12345}, {7: z})

    def test_ldh(self):
        for i8, own, z in ((0, 0xABCD, 0x00CD), (255, 0xABCD, 0xFFCD), (1, 0, 0x0100), (0x80, 0xFFFF, 0x80FF),
                           (255, 255, 65535), (0, 256, 0), (18, 52, 0x1234)):
            self.does(f"ldh r3 {i8}", {3: own}, {3: z})


class Jumps(Steps):
    def test_bz(self):
        for i9, pc in ((0, 101), (1, 102), (255, 356), (-1, 100), (-101, 0), (-102, 65535), (-256, 65381)):
            self.does(f"bz r1 {i9}", {1: 0}, {}, pc)
            for v in (1, 2, 32768, 65535):
                self.does(f"bz r1 {i9}", {1: v}, {}, 101)

    def test_bnz(self):
        for i9, pc in ((0, 101), (1, 102), (255, 356), (-1, 100), (-101, 0), (-102, 65535), (-256, 65381)):
            self.does(f"bnz r1 {i9}", {1: 0}, {}, 101)
            for v in (1, 2, 32768, 65535):
                self.does(f"bnz r1 {i9}", {1: v}, {}, pc)

    def test_jal(self):
        for i9, pc in ((0, 101), (5, 106), (255, 356), (-1, 100), (-256, 65381)):
            self.does(f"jal r1 {i9}", {}, {1: 101}, pc)
            self.does(f"jal r7 {i9}", {}, {7: 101}, pc)

    def test_jr(self):
        for x, i6, pc in ((500, 0, 500), (500, 31, 531), (500, -32, 468), (0, -32, 65504), (65535, 1, 0),
                          (65535, 31, 30), (65535, 0, 65535)):
            self.does(f"jr r1 r2 {i6}", {2: x}, {1: 101}, pc)

    def test_jr_with_one_register(self):
        for x, i6, pc in ((500, 0, 500), (500, 31, 531), (0, -1, 65535), (101, 0, 101)):
            self.does(f"jr r2 r2 {i6}", {2: x}, {2: 101}, pc)

    def test_near_the_memorys_end(self):
        self.does("add r1 r2 r3", {2: 1, 3: 2}, {1: 3}, 65520, 65519)
        self.does("jal r1 255", {}, {1: 65520}, 239, 65519)
        self.does("jal r1 15", {}, {1: 65520}, 65535, 65519)
        self.does("jal r1 16", {}, {1: 65520}, 0, 65519)
        self.does("bz r1 16", {1: 0}, {}, 0, 65519)
        self.does("bnz r1 -256", {1: 1}, {}, 65264, 65519)
        self.does("bz r1 -256", {1: 0}, {}, 65281, 0)
        self.does("jal r1 -1", {}, {1: 1}, 0, 0)
        self.does("jal r1 -2", {}, {1: 1}, 65535, 0)


class PcOutside(unittest.TestCase):
    def test_add_r0_r0_r0_is_done_there(self):
        calls = [set_to(0, 5), go(65520), run(1), reg(0), state()]
        self.assertEqual(ask(calls)[2:], [[1, 0], [10], [65521, 0, 0, 0, 0]])

    def test_0_is_behind_65535(self):
        calls = [set_to(0, 40000), go(65535), run(1), reg(0), state()]
        self.assertEqual(ask(calls)[2:], [[1, 0], [14464], [0, 0, 0, 0, 0]])

    def test_on_into_the_memorys_first_word(self):
        calls = [program(0, "ldi r3 7", "halt"), go(65534), run(9), reg(3), state()]
        self.assertEqual(ask(calls)[2:], [[4, 1], [7], [1, 0, 0, 0, 1]])

    def test_what_waits_there_goes_on_waiting(self):
        before = [feed(15, [0xE000, 1]), feed(0, [0xFFFF]), go(65535), set_to(0, 3)]
        self.assertEqual(changes(before, run(1)), {"regs": [[6]] + [[0]] * 7, "state": [0, 0, 0, 0, 0]})
        before = [feed(0, [0xE000, 0xFFFF]), go(65520), set_to(0, 3)]
        self.assertEqual(changes(before, run(1)), {"regs": [[6]] + [[0]] * 7, "state": [65521, 0, 0, 0, 0]})


class MemoryAndOutside(Steps):
    def test_ld_from_memory(self):
        words = [put(0, [11]), put(468, [21]), put(500, [22]), put(531, [23]), put(65504, [31]), put(65519, [41])]
        for x, i6, z in ((0, 0, 11), (500, 0, 22), (500, 31, 23), (500, -32, 21), (0, -32, 31), (1, -1, 11),
                         (65535, 1, 11), (65519, 0, 41), (65488, 31, 41), (15, -32, 41), (600, 0, 0)):
            for d, a in ((1, 2), (2, 2)):
                filled, found, after = self.step(f"ld r{d} r{a} {i6}", {2: x}, before=words)
                filled[d] = z
                self.assertEqual(found, [filled[i] for i in range(8)], (x, i6, d))
                self.assertEqual(after, [101, 0, 0, 0, 0])

    def test_ld_changes_nothing_else(self):
        before = [put(500, [22]), set_to(2, 500), program(100, "ld r1 r2 0"), go(100), feed(3, [5])]
        expected = {"regs": [[0], [22], [500]] + [[0]] * 5, "state": [101, 0, 0, 0, 0]}
        self.assertEqual(changes(before, run(1)), expected)

    def test_st_into_memory(self):
        for x, i6, p in ((500, 0, 500), (500, 31, 531), (500, -32, 468), (0, -32, 65504), (65535, 1, 0),
                         (65519, 0, 65519), (65488, 31, 65519), (15, -32, 65519)):
            before = [set_to(1, 777), set_to(2, x), program(100, f"st r1 r2 {i6}"), go(100)]
            memory = {100: 0x6000 + 0x200 + 0x80 + i6 % 64, p: 777}
            self.assertEqual(changes(before, run(1)), {"memory": memory, "state": [101, 0, 0, 0, 0]}, (x, i6))

    def test_st_with_one_register(self):
        before = [set_to(2, 500), program(100, "st r2 r2 3"), go(100)]
        self.assertEqual(ask(before + [run(1), get(503, 1), reg(2)])[3:], [[1, 0], [1, 500], [500]])

    def test_st_of_the_same_word_and_of_0(self):
        before = [put(500, [9]), set_to(2, 500), program(100, "st r1 r2 0"), go(100)]
        self.assertEqual(ask(before + [run(1), get(500, 1)])[4:], [[1, 0], [1, 0]])
        self.assertEqual(changes(before + [set_to(1, 9)], run(1)), {"state": [101, 0, 0, 0, 0]})

    def test_st_into_the_word_that_is_fetched_next(self):
        before = [set_to(1, 0xE000), set_to(2, 101), program(100, "st r1 r2 0", "ldi r3 5"), go(100)]
        self.assertEqual(ask(before + [run(9), reg(3), state()])[4:], [[2, 1], [0], [101, 0, 0, 0, 1]])

    def test_st_into_its_own_place(self):
        before = [set_to(1, 0xE000), set_to(2, 100), program(100, "st r1 r2 0", "jal r0 -2"), go(100)]
        self.assertEqual(ask(before + [run(9), state()])[4:], [[3, 1], [100, 0, 0, 0, 1]])

    def test_st_outside_is_told(self):
        for x, i6, k in ((65520, 0, 0), (65535, 0, 15), (65519, 1, 0), (65504, 31, 15), (0, -1, 15), (16, -32, 0),
                         (0, -16, 0), (65530, 0, 10)):
            before = [set_to(1, 777), set_to(2, x), program(100, f"st r1 r2 {i6}"), go(100)]
            self.assertEqual(changes(before, run(1)), {"told": [1, k, 777], "state": [101, 0, 0, 0, 0]}, (x, i6))

    def test_what_is_put_outside_does_not_wait_there(self):
        before = [set_to(1, 777), set_to(2, 65523), program(100, "st r1 r2 0", "ld r4 r2 0"), go(100), feed(3, [5])]
        calls = before + [run(2), reg(4), feed(3, []), told()]
        self.assertEqual(ask(calls)[5:], [[2, 0], [5], [0], [1, 3, 777]])

    def test_ld_outside(self):
        for k in (0, 7, 15):
            before = [feed(k, [5, 65535]), feed((k + 1) % 16, [9]), set_to(2, 65520 + k), go(100)]
            before += [program(100, "ld r1 r2 0", "ld r3 r2 0", "ld r4 r2 0"), set_to(4, 77)]
            calls = before + [run(3), reg(1), reg(3), reg(4), feed(k, []), feed((k + 1) % 16, []), told()]
            self.assertEqual(ask(calls)[6:], [[3, 0], [5], [65535], [0], [0], [1], [0]], k)

    def test_ld_outside_changes_nothing_else(self):
        before = [feed(5, [8, 9]), set_to(2, 65525), program(100, "ld r1 r2 0"), go(100), feed(6, [1])]
        expected = {"regs": [[0], [8], [65525]] + [[0]] * 5, "state": [101, 0, 0, 0, 0], "waiting": {5: [9], 6: [1]}}
        self.assertEqual(changes(before, run(1)), expected)

    def test_ld_outside_where_none_waits(self):
        before = [set_to(2, 65535), set_to(1, 6), program(100, "ld r1 r2 0"), go(100)]
        expected = {"regs": [[0], [0], [65535]] + [[0]] * 5, "state": [101, 0, 0, 0, 0]}
        self.assertEqual(changes(before, run(1)), expected)

    def test_ld_outside_with_one_register(self):
        before = [feed(15, [44]), set_to(2, 65504), program(100, "ld r2 r2 31"), go(100)]
        self.assertEqual(ask(before + [run(1), reg(2), feed(15, [])])[4:], [[1, 0], [44], [0]])

    def test_fed_behind_what_waits(self):
        line = "ld r1 r2 0"
        before = [feed(6, [3, 1]), feed(6, [2]), set_to(2, 65526), program(0, line, line, line, line)]
        calls = before + [run(1), reg(1), feed(6, [8]), run(1), reg(1), run(1), reg(1), run(1), reg(1)]
        self.assertEqual(ask(calls)[4:], [[1, 0], [3], [3], [1, 0], [1], [1, 0], [2], [1, 0], [8]])

    def test_a_refused_feed_leaves_what_waits(self):
        before = [feed(6, [3, 1]), feed(6, [5] * 63), set_to(2, 65526)]
        self.assertEqual(last(before[:2]), [-3])
        self.assertEqual(look(before)["waiting"], {6: [3, 1]})

    def test_room_again_behind_a_read(self):
        before = [feed(0, [1] * 64), set_to(2, 65520), program(0, "ld r1 r2 0"), run(1)]
        self.assertEqual(ask(before + [feed(0, [2, 2]), feed(0, [2]), feed(0, [2])])[4:], [[-3], [64], [-3]])

    def test_told_the_first_first_and_once(self):
        lines = ("st r1 r2 0", "st r3 r4 0", "st r1 r2 0", "st r3 r2 1")
        before = [set_to(1, 7), set_to(2, 65520), set_to(3, 65535), set_to(4, 65535), program(0, *lines)]
        calls = before + [run(3), told(), told(), run(1), told(), told()]
        expected = [[3, 0], [3, 0, 7, 15, 65535, 0, 7], [0], [1, 0], [1, 1, 65535], [0]]
        self.assertEqual(ask(calls)[5:], expected)

    def test_told_behind_many(self):
        before = [set_to(1, 7), set_to(2, 65535), program(0, "st r1 r2 0", "addi r1 r1 1", "jal r0 -3")]
        given = ask(before + [run(19998), told(), told()])
        self.assertEqual(given[3:4] + given[5:], [[19998, 0], [0]])
        self.assertTrue(given[4] == [6666] + [n for k in range(6666) for n in (15, 7 + k)])


class Halt(Steps):
    def test_pc_stays(self):
        for at in (0, 100, 65519):
            filled, found, after = self.step("halt", at=at)
            self.assertEqual(found, [filled[i] for i in range(8)])
            self.assertEqual(after, [at, 0, 0, 0, 1])

    def test_changes_nothing_else(self):
        before = [program(100, "halt"), go(100), feed(1, [2])]
        self.assertEqual(changes(before, run(1)), {"state": [100, 0, 0, 0, 1]})

    def test_a_halted_machine_stays(self):
        before = [program(0, "ldi r1 1", "let r1", "halt", "ldi r2 5"), run(3), feed(0, [1]), stop(2)]
        for call in (run(0), run(1), run(20), run(20, [0, 1]), trace(0), trace(5), trace(64, [0, 1, 2])):
            self.assertEqual(changes(before, call, (2,)), {}, call)
        self.assertEqual(last(before + [state()]), [2, 1, 0, 0, 1])

    def test_go_behind_a_halt(self):
        before = [program(0, "trap 3", "halt", "halt"), run(2)]
        self.assertEqual(last(before + [state()]), [2, 0, 1, 19, 1])
        self.assertEqual(changes(before, go(9)), {"state": [9, 0, 1, 19, 0]})
        self.assertEqual(changes(before, go(2)), {"state": [2, 0, 1, 19, 0]})
        self.assertEqual(ask(before + [go(2), run(5), state()])[3:], [[1, 1], [2, 0, 1, 19, 1]])

    def test_a_halted_machine_can_be_set_put_and_fed(self):
        before = [program(0, "halt"), run(1)]
        calls = before + [set_to(1, 5), put(9, [4]), feed(0, [3]), reg(1), get(9, 1), state()]
        self.assertEqual(ask(calls)[2:], [[0], [1], [1], [5], [1, 4], [0, 0, 0, 0, 1]])


if __name__ == "__main__":
    unittest.main()
