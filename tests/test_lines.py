"""load and list."""

import unittest

from asking import ask, as_bytes, changes, first_difference, get, last, listed, load, memory_behind, program, put

# As many lines as 4000 bytes can be.
MANY_LINES = "ret\n" * 1000


class Load(unittest.TestCase):
    def test_words_stand_from_p_on(self):
        calls = [program(5, "ldi r1 -1", "halt", "word 65535"), get(4, 5)]
        self.assertEqual(ask(calls), [[3], [5, 0, 0x33FF, 0xE000, 65535, 0]])

    def test_one_line(self):
        self.assertEqual(ask([load(0, "ret\n"), get(0, 2)]), [[1], [2, 0xC000, 0]])

    def test_stands_over_what_was_there(self):
        calls = [put(10, [1, 2, 3, 4]), program(11, "add r0 r0 r0", "ret"), get(10, 4)]
        self.assertEqual(ask(calls), [[4], [2], [4, 1, 0, 0xC000, 4]])

    def test_empty_text(self):
        for p in (0, 7, 65519, 65520, 65521, 65535):
            self.assertEqual(last([load(p, "")]), [0], p)
        self.assertEqual(changes([put(7, [9])], load(7, "")), {})

    def test_wrong_line_first_in_the_middle_and_last(self):
        for wrong in ("", " ", "nop", "ret ", " ret", "RET", "word 0", "trap 8", "ldi r1 256", "ldi r1  5", "let r8"):
            for place in range(4):
                lines = ["ret", "halt", "word 65535"]
                lines.insert(place, wrong)
                self.assertEqual(last([program(0, *lines)]), [-6, place], (wrong, place))

    def test_the_first_of_several_wrong_lines(self):
        self.assertEqual(last([program(0, "ret", "nop", "ret", "nop", "nop")]), [-6, 1])
        self.assertEqual(last([program(0, "nop", "nop")]), [-6, 0])

    def test_empty_lines(self):
        for row, line in (("\n", 0), ("\n\n", 0), ("ret\n\n", 1), ("\nret\n", 0), ("ret\n\nret\n", 1)):
            self.assertEqual(last([load(0, row)]), [-6, line], row)

    def test_no_byte_10_behind_the_last_line(self):
        for row, line in (("ret", 0), ("ret\nhalt", 1), ("ret\nhalt\nword 65535", 2), ("ret\nnop", 1), ("nop", 0)):
            self.assertEqual(last([load(0, row)]), [-6, line], row)
        for row, line in (("nop\nret", 0), ("ret\nnop\nret\nret", 1), ("\nret", 0), ("ret\n ", 1), (" ", 0)):
            self.assertEqual(last([load(0, row)]), [-6, line], row)

    def test_other_ends_of_lines(self):
        self.assertEqual(ask([load(0, "ret\r\n"), load(0, "ret\r"), load(0, "ret\n\r")]), [[-6, 0], [-6, 0], [-6, 1]])
        self.assertEqual(ask([load(0, [10]), load(0, [0]), load(0, [255, 10])]), [[-6, 0]] * 3)

    def test_other_bytes(self):
        for byte in (0, 9, 11, 13, 127, 128, 138, 194, 255):
            row = as_bytes("ret\n") + [byte] + as_bytes("ret\nret\n")
            self.assertEqual(last([load(0, row)]), [-6, 1], byte)

    def test_wrong_lines_change_nothing(self):
        before = [put(0, [5] * 6)]
        for row in ("ret\nhalt\nnop\n", "ret\nhalt", "nop\nret\n", "\n"):
            self.assertEqual(changes(before, load(1, row)), {}, row)

    def test_ends_just_at_the_last_word(self):
        self.assertEqual(ask([program(65519, "ret"), get(65519, 1)]), [[1], [1, 0xC000]])
        calls = [program(65517, "ret", "halt", "ret"), get(65516, 4)]
        self.assertEqual(ask(calls), [[3], [4, 0, 0xC000, 0xE000, 0xC000]])

    def test_past_the_end_nothing_of_it_is_put(self):
        before = [put(65515, [4] * 5)]
        for p, size in ((65520, 1), (65519, 2), (65518, 3), (65535, 1), (65535, 3), (65521, 2)):
            self.assertEqual(last(before + [load(p, "ret\n" * size)]), [-1], (p, size))
            self.assertEqual(changes(before, load(p, "ret\n" * size)), {}, (p, size))

    def test_both_refusals(self):
        for p in (65519, 65520, 65535):
            self.assertEqual(last([load(p, "ret\nret\nnop\n")]), [-6, 2], p)
            self.assertEqual(last([load(p, "ret\nret\nret")]), [-6, 2], p)
            self.assertEqual(last([load(p, "\nret\n")]), [-6, 0], p)

    def test_4000_bytes(self):
        self.assertEqual(len(MANY_LINES), 4000)
        for p in (0, 64520):
            expected = {p + k: 0xC000 for k in range(1000)}
            self.assertEqual(last([load(p, MANY_LINES)]), [1000])
            self.assertEqual(memory_behind([load(p, MANY_LINES)]), expected)
        self.assertEqual(last([load(64521, MANY_LINES)]), [-1])
        self.assertEqual(last([load(0, MANY_LINES[:-1])]), [-6, 999])
        self.assertEqual(last([load(0, MANY_LINES[:-4] + "add\n")]), [-6, 999])

    def test_4000_bytes_of_one_sign(self):
        for byte in (10, 32, 45, 48, 57, 97, 114, 255):
            self.assertEqual(last([load(0, [byte] * 4000)]), [-6, 0], byte)
        self.assertEqual(last([load(0, "ldi r1 " + "9" * 3992 + "\n")]), [-6, 0])
        self.assertEqual(last([load(0, "word " * 800)]), [-6, 0])

    def test_a_refused_text_is_passed_over_whole(self):
        calls = [load(0, "nop\n"), program(1, "ret"), load(65520, "ret\n"), get(0, 2)]
        self.assertEqual(ask(calls), [[-6, 0], [1], [-1], [2, 0, 0xC000]])


class List(unittest.TestCase):
    def told(self, *lines):
        row = as_bytes("".join(line + "\n" for line in lines))
        return [len(row)] + row

    def test_lines_of_some_words(self):
        calls = [put(5, [0x33FF, 65535, 0xE000]), listed(4, 5)]
        lines = ("add r0 r0 r0", "ldi r1 -1", "word 65535", "halt", "add r0 r0 r0")
        self.assertEqual(last(calls), self.told(*lines))

    def test_n_0(self):
        for p in (0, 65519, 65520, 65535):
            self.assertEqual(last([put(0, [7]), listed(p, 0)]), [0], p)

    def test_n_64_and_above(self):
        self.assertEqual(last([listed(0, 64)]), self.told(*["add r0 r0 r0"] * 64))
        for n in (65, 66, 65535):
            self.assertEqual(ask([listed(0, n), listed(65535, n)]), [[-1], [-1]], n)

    def test_up_to_the_last_word_and_no_further(self):
        before = [put(65519, [0xC000])]
        self.assertEqual(last(before + [listed(65519, 1)]), self.told("ret"))
        self.assertEqual(last(before + [listed(65456, 64)]), self.told(*["add r0 r0 r0"] * 63, "ret"))
        for p, n in ((65520, 1), (65519, 2), (65457, 64), (65535, 1), (65535, 64)):
            self.assertEqual(last(before + [listed(p, n)]), [-1], (p, n))

    def test_changes_nothing(self):
        before = [put(3, [1, 2, 3])]
        for call in (listed(0, 10), listed(0, 65), listed(65520, 1)):
            self.assertEqual(changes(before, call), {}, call)

    def test_what_is_listed_is_loaded_as_the_same_words(self):
        words = [(k * 2503 + 77) % 65536 for k in range(2000)]
        for k in range(0, 2000, 64):
            n = min(64, 2000 - k)
            row = last([put(0, words), listed(k, n)])[1:]
            given = ask([load(30000, row), get(30000, n)])
            self.assertIsNone(first_difference(given, [[n], [n] + words[k:k + n]]), k)

    def test_the_longest(self):
        """64 words of the longest texts there are."""
        given = last([put(0, [0x2FE0] * 64), listed(0, 64)])
        self.assertEqual(given, self.told(*["addi r7 r7 -32"] * 64))


if __name__ == "__main__":
    unittest.main()
