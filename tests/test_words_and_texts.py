"""word, read, text, code: each word is one instruction's or none's, and has one text (P1, P5)."""

import unittest

from asking import ask, as_bytes, code, first_difference, last, read, text, told_by_table, word

# A word of each kind with its kind, its parts and its text.
SOME = (
    (0b0000_001_010_011_000, 0, [0, 1, 2, 3], "add r1 r2 r3"),
    (0b0000_111_110_101_001, 0, [1, 7, 6, 5], "sub r7 r6 r5"),
    (0b0000_000_000_001_010, 0, [2, 0, 0, 1], "and r0 r0 r1"),
    (0b0000_000_001_000_011, 0, [3, 0, 1, 0], "or r0 r1 r0"),
    (0b0000_001_000_000_100, 0, [4, 1, 0, 0], "xor r1 r0 r0"),
    (0b0000_010_011_100_101, 0, [5, 2, 3, 4], "shl r2 r3 r4"),
    (0b0000_100_011_010_110, 0, [6, 4, 3, 2], "shr r4 r3 r2"),
    (0b0000_111_111_111_111, 0, [7, 7, 7, 7], "sar r7 r7 r7"),
    (0b0001_001_010_011_000, 1, [0, 1, 2, 3], "lts r1 r2 r3"),
    (0b0001_111_000_111_001, 1, [1, 7, 0, 7], "ltu r7 r0 r7"),
    (0b0001_000_111_000_010, 1, [2, 0, 7, 0], "eq r0 r7 r0"),
    (0b0010_001_010_000011, 2, [1, 2, 3], "addi r1 r2 3"),
    (0b0010_001_010_100000, 2, [1, 2, 65504], "addi r1 r2 -32"),
    (0b0010_111_000_011111, 2, [7, 0, 31], "addi r7 r0 31"),
    (0b0011_001_000000000, 3, [1, 0], "ldi r1 0"),
    (0b0011_001_100000000, 3, [1, 65280], "ldi r1 -256"),
    (0b0011_110_011111111, 3, [6, 255], "ldi r6 255"),
    (0b0100_011_0_00000000, 4, [3, 0], "ldh r3 0"),
    (0b0100_011_0_11111111, 4, [3, 255], "ldh r3 255"),
    (0b0101_010_001_111111, 5, [2, 1, 65535], "ld r2 r1 -1"),
    (0b0110_010_001_000001, 6, [2, 1, 1], "st r2 r1 1"),
    (0b0111_101_111111111, 7, [5, 65535], "bz r5 -1"),
    (0b1000_101_000001010, 8, [5, 10], "bnz r5 10"),
    (0b1001_000_111110110, 9, [0, 65526], "jal r0 -10"),
    (0b1010_110_111_100001, 10, [6, 7, 65505], "jr r6 r7 -31"),
    (0b1011_000000000000, 11, [0], "trap 0"),
    (0b1011_000000000111, 11, [7], "trap 7"),
    (0b1100_000000000000, 12, [], "ret"),
    (0b1101_001_000_000_000, 13, [0, 1], "from r1"),
    (0b1101_010_000_000_001, 13, [1, 2], "cause r2"),
    (0b1101_011_000_000_010, 13, [2, 3], "back r3"),
    (0b1101_000_000_000_011, 13, [3, 0], "let r0"),
    (0b1101_111_000_000_100, 13, [4, 7], "may r7"),
    (0b1110_000000000000, 14, [], "halt"),
)

# Words that are no instruction's, by reason.
NONE = {
    "kind 1, f 3 to 7": [0x1000 + f for f in range(3, 8)] + [0x1FFB, 0x1FFF],
    "kind 4, bit 8": [0x4100, 0x41FF, 0x4F00, 0x4D80],
    "trap 8 and above": [0xB008, 0xB009, 0xB010, 0xB040, 0xB200, 0xB800, 0xBFFF],
    "ret, other bits": [0xC001, 0xC008, 0xC040, 0xC100, 0xC200, 0xC800, 0xCFFF],
    "kind 13, f 5 to 7": [0xD005, 0xD006, 0xD007, 0xDE05],
    "kind 13, a": [0xD040, 0xD080, 0xD100, 0xD1C4],
    "kind 13, b": [0xD008, 0xD010, 0xD020, 0xD03C],
    "halt, other bits": [0xE001, 0xE008, 0xE040, 0xE100, 0xE200, 0xE800, 0xEFFF],
    "op 15": [0xF000, 0xF001, 0xF800, 0xFFFF],
}


def ask_in_lists(calls):
    rows = []
    for k in range(0, len(calls), 60):
        rows += ask(calls[k:k + 60])
    return rows


def text_answer(written):
    return [len(written)] + as_bytes(written)


class OneOfEach(unittest.TestCase):
    def test_word(self):
        for w, kind, parts, written in SOME:
            self.assertEqual(last([word(kind, parts)]), [w], written)

    def test_read(self):
        for w, kind, parts, written in SOME:
            self.assertEqual(last([read(w)]), [kind] + parts, written)

    def test_text(self):
        for w, kind, parts, written in SOME:
            self.assertEqual(last([text(w)]), text_answer(written), written)

    def test_code(self):
        for w, kind, parts, written in SOME:
            self.assertEqual(last([code(written)]), [w], written)

    def test_no_instructions(self):
        for reason, words in NONE.items():
            for w in words:
                written = f"word {w}"
                expected = [[-4], text_answer(written), [w]]
                self.assertEqual(ask([read(w), text(w), code(written)]), expected, (reason, w))

    def test_the_neighbours_of_no_instructions(self):
        calls = [read(w) for w in (0x1002, 0x40FF, 0x4200, 0xB007, 0xC000, 0xD004, 0xDE04, 0xE000)]
        expected = [[1, 2, 0, 0, 0], [4, 0, 255], [4, 1, 0], [11, 7], [12], [13, 4, 0], [13, 4, 7], [14]]
        self.assertEqual(ask(calls), expected)


class EveryWord(unittest.TestCase):
    def setUp(self):
        self.table = [told_by_table(w) for w in range(65536)]

    def test_read(self):
        expected = [[-4] if kind is None else [kind] + parts for kind, parts, written in self.table]
        self.assertIsNone(first_difference(ask_in_lists([read(w) for w in range(65536)]), expected))

    def test_text(self):
        expected = [text_answer(written) for kind, parts, written in self.table]
        self.assertIsNone(first_difference(ask_in_lists([text(w) for w in range(65536)]), expected))

    def test_text_told_is_coded_as_the_same_word(self):
        rows = ask_in_lists([text(w) for w in range(65536)])
        given = ask_in_lists([code(row[1:]) for row in rows])
        self.assertIsNone(first_difference(given, [[w] for w in range(65536)]))
        self.assertEqual(len({tuple(row) for row in rows}), 65536)

    def test_parts_read_make_the_same_word(self):
        rows = ask_in_lists([read(w) for w in range(65536)])
        pairs = [(w, row) for w, row in enumerate(rows) if row != [-4]]
        given = ask_in_lists([word(row[0], row[1:]) for w, row in pairs])
        self.assertIsNone(first_difference(given, [[w] for w, row in pairs]))
        self.assertEqual(len({tuple(row) for w, row in pairs}), len(pairs))

    def test_how_many_are_instructions(self):
        by_kind = [0] * 16
        for kind, parts, written in self.table:
            by_kind[15 if kind is None else kind] += 1
        sizes = [4096, 8 * 64 * 3, 4096, 4096, 2048, 4096, 4096, 4096, 4096, 4096, 4096, 8, 1, 40, 1]
        self.assertEqual(by_kind, sizes + [65536 - sum(sizes)])


class WordRefused(unittest.TestCase):
    def refused(self, kind, rows):
        for parts in rows:
            self.assertEqual(last([word(kind, parts)]), [-1], (kind, parts))

    def test_no_such_kind(self):
        for kind in (15, 16, 17, 255, 4096, 65535):
            self.refused(kind, ([], [0], [0, 0], [0, 0, 0], [0, 0, 0, 0]))

    def test_another_number_of_parts(self):
        sizes = [4, 4, 3, 2, 2, 3, 3, 2, 2, 2, 3, 1, 0, 2, 0]
        for kind, size in enumerate(sizes):
            self.assertGreaterEqual(last([word(kind, [0] * size)])[0], 0, kind)
            self.refused(kind, [[0] * other for other in range(9) if other != size])

    def test_kinds_0_and_1(self):
        self.assertEqual(ask([word(0, [7, 7, 7, 7]), word(1, [2, 7, 7, 7])]), [[0x0FFF], [0x1FFA]])
        self.refused(0, ([8, 0, 0, 0], [0, 8, 0, 0], [0, 0, 8, 0], [0, 0, 0, 8], [65535, 0, 0, 0], [0, 0, 0, 65535]))
        self.refused(1, ([3, 0, 0, 0], [7, 0, 0, 0], [8, 0, 0, 0], [0, 8, 0, 0], [0, 0, 8, 0], [0, 0, 0, 8]))

    def test_i6_as_a_word(self):
        for kind in (2, 5, 6, 10):
            at = kind * 4096
            good = [word(kind, [7, 7, i6]) for i6 in (0, 31, 65504, 65535)]
            self.assertEqual(ask(good), [[at + 0xFC0], [at + 0xFDF], [at + 0xFE0], [at + 0xFFF]])
            self.refused(kind, [[0, 0, i6] for i6 in (32, 33, 63, 64, 256, 32767, 32768, 65472, 65503)])
            self.refused(kind, ([8, 0, 0], [0, 8, 0], [65535, 0, 0], [0, 65535, 0]))

    def test_i9_as_a_word(self):
        for kind in (3, 7, 8, 9):
            at = kind * 4096
            good = [word(kind, [7, i9]) for i9 in (0, 255, 65280, 65535)]
            self.assertEqual(ask(good), [[at + 0xE00], [at + 0xEFF], [at + 0xF00], [at + 0xFFF]])
            self.refused(kind, [[0, i9] for i9 in (256, 257, 511, 512, 32768, 65024, 65279)])
            self.refused(kind, ([8, 0], [65535, 0]))

    def test_ldh(self):
        self.assertEqual(ask([word(4, [7, 255]), word(4, [0, 0])]), [[0x4EFF], [0x4000]])
        self.refused(4, ([8, 0], [0, 256], [0, 257], [0, 511], [0, 512], [0, 65535]))

    def test_trap(self):
        self.assertEqual(ask([word(11, [k]) for k in range(8)]), [[0xB000 + k] for k in range(8)])
        self.refused(11, ([8], [9], [16], [4095], [4096], [65535]))

    def test_kind_13(self):
        self.assertEqual(last([word(13, [4, 7])]), [0xDE04])
        self.refused(13, ([5, 0], [6, 0], [7, 0], [8, 0], [0, 8], [65535, 0], [0, 65535]))


class CodeRefused(unittest.TestCase):
    def refused(self, *rows):
        for row in rows:
            self.assertEqual(last([code(row)]), [-4], row)

    def test_empty_and_blanks(self):
        self.refused("", " ", "  ", "   ")

    def test_blanks_elsewhere(self):
        for good in ("add r1 r2 r3", "ldi r1 5", "trap 1", "ret", "from r1", "halt", "word 65535"):
            self.assertGreaterEqual(last([code(good)])[0], 0, good)
            self.refused(" " + good, good + " ", "  " + good, good + "  ")
            if " " in good:
                self.refused(good.replace(" ", "  "), good.replace(" ", "  ", 1), good.replace(" ", ""))

    def test_other_bytes_between_and_behind(self):
        for byte in (0, 9, 10, 11, 12, 13, 44, 95, 160):
            sign = [byte]
            self.refused(as_bytes("ldi r1") + sign + as_bytes("5"), as_bytes("ldi r1 5") + sign)
            self.refused(sign + as_bytes("ret"), as_bytes("ret") + sign, as_bytes("ldi r1 5") + sign + as_bytes("0"))

    def test_registers(self):
        self.refused("add r8 r0 r0", "add r0 r8 r0", "add r0 r0 r8", "add r9 r0 r0", "add r00 r0 r0", "add r01 r0 r0")
        self.refused("add r0 r0 r00", "add r r0 r0", "add 1 r0 r0", "add r0 r0 0", "add r-1 r0 r0", "add r+1 r0 r0")
        self.refused("add R1 r0 r0", "add rr1 r0 r0", "add -1 r0 r0", "add -r1 r0 r0", "add r10 r0 r0")
        self.refused("ldi 1 5", "ldi r65536 5", "ldi r65537 5", "ldi rd 5", "from 1", "from r8", "may r07")

    def test_numbers_with_a_sign(self):
        for name in ("addi r1 r2", "ld r1 r2", "st r1 r2", "jr r1 r2"):
            good = [code(f"{name} {i6}") for i6 in (-32, -1, 0, 1, 31)]
            self.assertTrue(all(answer[0] >= 0 for answer in ask(good)), name)
            wrong = "32 33 -33 -34 64 65504 65535 65536 65537 +1 +0 -0 00 01 007 -01 -032 --1 - r1 r0 1r 1- 0x1 1_0"
            self.refused(*[f"{name} {i6}" for i6 in wrong.split()])
        for name in ("ldi r1", "bz r1", "bnz r1", "jal r1"):
            good = [code(f"{name} {i9}") for i9 in (-256, -255, 0, 254, 255)]
            self.assertTrue(all(answer[0] >= 0 for answer in ask(good)), name)
            wrong = "256 257 -257 -258 511 512 65280 65535 65536 +1 -0 00 01 0255 -0256 -00 - 1.0 2e1 1_0"
            self.refused(*[f"{name} {i9}" for i9 in wrong.split()])

    def test_numbers_without_a_sign(self):
        self.refused("ldh r1 256", "ldh r1 -1", "ldh r1 -0", "ldh r1 00", "ldh r1 01", "ldh r1 +1", "ldh r1 65535")
        self.refused("ldh r1 65536", "ldh r1 511", "ldh r1 r1")
        self.refused("trap 8", "trap -1", "trap -0", "trap 00", "trap 07", "trap +1", "trap 65536", "trap r1")

    def test_too_few_and_too_many_parts(self):
        self.refused("add", "add r1", "add r1 r2", "add r1 r2 r3 r4", "add r1 r2 r3 0", "addi r1 r2", "addi r1 r2 3 4")
        self.refused("ldi r1", "ldi r1 2 3", "ldi 2", "ldh r1", "ldh r1 2 3", "ld r1 r2", "st r1 r2", "jr r1 r2")
        self.refused("bz r1", "bnz r1", "jal r1", "trap", "trap 1 2", "ret 0", "ret r0", "halt 0", "halt r0")
        self.refused("from", "from r1 r2", "from r1 0", "from 0 r1", "add 0 r1 r2 r3", "word", "word 1 65535")

    def test_names(self):
        self.refused("Add r1 r2 r3", "ADD r1 r2 r3", "aDd r1 r2 r3", "RET", "Halt", "WORD 65535", "Word 65535")
        self.refused("ad r1 r2 r3", "addd r1 r2 r3", "nop", "mov r1 r2", "r1", "0", "-1", "65535", "trap0", "rets")
        self.refused("lt r1 r2 r3", "shift r1 r2 r3", "ldl r1 5", "to r1", "wor 65535", "words 65535", "w 65535")

    def test_word_with_an_instructions_number(self):
        for w, kind, parts, written in SOME:
            self.refused(f"word {w}")
        self.refused("word 0", "word 1", "word 4095", "word 57344")

    def test_word_with_a_wrong_number(self):
        self.assertEqual(ask([code("word 65535"), code("word 4099")]), [[65535], [4099]])
        self.refused("word 65536", "word 65537", "word 69635", "word 99999", "word 100000", "word 131071")
        self.refused("word 065535", "word 04099", "word -1", "word -0", "word +65535", "word r65535", "word 6553 5")
        self.refused("word " + "9" * 190, "word 1" + "0" * 180 + "65535", "word " + "0" * 180 + "65535")

    def test_every_number_of_five_digits_behind_word(self):
        given = ask_in_lists([code(f"word {w}") for w in range(65536, 100000)])
        self.assertEqual({tuple(answer) for answer in given}, {(-4,)})

    def test_bytes_that_stand_in_no_text(self):
        for byte in range(256):
            letter = as_bytes("ret")
            letter[1] = byte
            digit = as_bytes("word 65535")
            digit[9] = byte
            expected = [[0xC000 if byte == ord("e") else -4], [65530 + byte - 48 if 48 <= byte <= 53 else -4]]
            self.assertEqual(ask([code(letter), code(digit)]), expected, byte)

    def test_bytes_from_128_on(self):
        self.refused([128], [255], [194, 160], as_bytes("ret") + [128], [227, 129, 130], [0xC2, 0xB2])
        self.refused([byte + 128 for byte in as_bytes("ret")], as_bytes("ldi r1 ") + [0xB2])
        for byte in range(128, 256):
            self.refused([byte], as_bytes("ldi r1 ") + [byte])

    def test_200_bytes(self):
        self.refused("r" * 200, " " * 200, "9" * 200, "-" * 200, [255] * 200, "add r1 r2 r3" + " " * 188)
        self.refused("ldi r1 " + "1" * 193, "ldi r1 -" + "0" * 191 + "1", "word " * 40)

    def test_all_changes_of_one_byte(self):
        """A text with one byte changed is another word's text or none's: what it is coded as has just that text."""
        for good in ("add r1 r2 r3", "addi r1 r2 -32", "ldi r1 255", "trap 7", "let r0", "word 61440"):
            for place in range(len(good)):
                rows = []
                for byte in range(256):
                    row = as_bytes(good)
                    row[place] = byte
                    rows.append(row)
                for row, answer in zip(rows, ask_in_lists([code(row) for row in rows])):
                    known = [w for w in answer if w >= 0]
                    self.assertEqual([as_bytes(told_by_table(w)[2]) for w in known], [row] * len(known), row)


class NothingIsChanged(unittest.TestCase):
    def test_answers_between_other_calls(self):
        calls = [word(11, [1]), read(0xFFFF), text(0), code("ret "), word(16, [1] * 8), code("halt"), read(0)]
        expected = [[0xB001], [-4], text_answer("add r0 r0 r0"), [-4], [-1], [0xE000], [0, 0, 0, 0, 0]]
        self.assertEqual(ask(calls), expected)


if __name__ == "__main__":
    unittest.main()
