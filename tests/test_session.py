"""new, and what all calls have in common: P2, P6 and the interface."""

import unittest

from asking import (
    ask, back, changes, clear, code, feed, first_difference, get, go, last, listed, load, look, new, parted, program,
    put, read, reg, run, save, set_to, state, stop, text, told, trace, word,
)

from chiphouse.bench import answers

STOPS = (0, 7, 300, 65535)
# Registers, memory, all of state, what waits, what's to be told, stops, what's saved: all are other than at first.
BUSY = [
    put(0, [1, 2, 3]), put(65519, [65535]), set_to(0, 65535), set_to(7, 8), feed(0, [1] * 64), feed(15, [2]),
    program(20, "st r7 r0 -3", "ldi r6 1", "trap 4"), go(20), run(3),
    program(30, "let r6", "halt", "ldi r5 5"), go(30), run(2), stop(7), stop(65535), save(1),
]


class New(unittest.TestCase):
    def test_all_is_as_at_first_behind_new(self):
        at_first = look([], STOPS)
        busy = look(BUSY, STOPS)
        for name in at_first:
            self.assertNotEqual(busy[name], at_first[name], name)
        self.assertEqual(look(BUSY + [new()], STOPS), at_first)

    def test_answers_0_whatever_was(self):
        self.assertEqual(ask([new(), new()]), [[0], [0]])
        self.assertEqual(last(BUSY + [new()]), [0])

    def test_all_16_stops_are_gone(self):
        calls = [stop(p) for p in range(16)] + [new()] + [stop(p) for p in range(16, 32)]
        self.assertEqual(ask(calls)[17:], [[1]] * 16)

    def test_can_be_fed_full_again(self):
        self.assertEqual(ask([feed(3, [1] * 64), new(), feed(3, [1] * 64)]), [[64], [0], [64]])

    def test_at_first(self):
        seen = look([], STOPS)
        self.assertEqual(seen["state"], [0, 0, 0, 0, 0])
        self.assertEqual(seen["regs"], [[0]] * 8)
        self.assertEqual(seen["waiting"], {})
        self.assertEqual(seen["told"], [0])
        self.assertEqual(seen["memory"], {})
        self.assertEqual(seen["stops"], [[-4]] * 4)


class NothingElseChanges(unittest.TestCase):
    """P6: behind each call only what it tells of is another than before."""

    def changed(self, call):
        return changes(BUSY, call, STOPS)

    def test_asking_changes_nothing(self):
        asking = (
            get(0, 64), get(65535, 0), reg(0), reg(7), state(), put(9, []), feed(0, []), word(12, []), read(0), text(0),
            code("ret"), load(9, ""), listed(0, 64), save(0), save(1), back(1), run(0), run(0, [0]), trace(0),
        )
        for call in asking:
            self.assertGreaterEqual(last(BUSY + [call])[0], 0, call)
            self.assertEqual(self.changed(call), {}, call)

    def test_refused_changes_nothing(self):
        refused = (
            put(65519, [1, 2]), get(0, 65), reg(8), set_to(8, 1), feed(16, [1]), feed(0, [1]), clear(0), clear(300),
            trace(65), trace(65, [0]), word(15, []), word(2, [1, 2, 32]), read(65535), code("ret "), load(0, "ret"),
            load(65519, "ret\nret\n"), listed(0, 65), listed(65520, 1), save(4), back(0), back(4),
        )
        for call in refused:
            self.assertLess(last(BUSY + [call])[0], 0, call)
            self.assertEqual(self.changed(call), {}, call)

    def test_told(self):
        self.assertEqual(last(BUSY + [told()]), [1, 12, 8])
        self.assertEqual(self.changed(told()), {"told": [0]})

    def test_put_and_load(self):
        memory = look(BUSY)["memory"]
        self.assertEqual(self.changed(put(100, [4, 5])), {"memory": {**memory, 100: 4, 101: 5}})
        self.assertEqual(self.changed(load(100, "ret\nhalt\n")), {"memory": {**memory, 100: 0xC000, 101: 0xE000}})

    def test_set(self):
        regs = [[65535], [0], [0], [6], [0], [0], [1], [8]]
        self.assertEqual(self.changed(set_to(3, 6)), {"regs": regs})

    def test_go(self):
        self.assertEqual(self.changed(go(12)), {"state": [12, 1, 23, 20, 0]})

    def test_feed(self):
        self.assertEqual(self.changed(feed(15, [3, 4])), {"waiting": {0: [1] * 64, 15: [2, 3, 4]}})

    def test_stop_and_clear(self):
        self.assertEqual(self.changed(stop(300)), {"stops": [[-4], [0], [0], [0]]})
        self.assertEqual(self.changed(stop(7)), {})
        self.assertEqual(self.changed(clear(7)), {"stops": [[-4], [-4], [-4], [0]]})

    def test_run_and_trace_of_a_halted_machine(self):
        for call in (run(5), run(5, [0]), trace(5), trace(64, [0, 1])):
            self.assertEqual(self.changed(call), {}, call)

    def test_run_and_trace(self):
        before = BUSY + [go(32)]
        regs = [[65535], [0], [0], [0], [0], [5], [1], [8]]
        for call in (run(1), trace(1), run(1, [1])):
            self.assertEqual(changes(before, call, STOPS), {"regs": regs, "state": [33, 1, 23, 20, 0]}, call)
        for call in (run(1, [0]), trace(1, [0])):
            self.assertEqual(changes(before, call, STOPS), {"state": [2, 0, 32, 1, 0]}, call)


class Interface(unittest.TestCase):
    def test_how_answers_stand(self):
        calls = [1, 10, 2, 5, 6, 2, 10, 3, 3, 8, 6, 0, 8, 7, 1, 0]
        self.assertEqual(answers(calls), [1, 2, 4, 3, 5, 6, 0, 1, -1, 5, 0, 0, 0, 0, 0, 1, 0, 1, 0, 1, 0])

    def test_how_answers_of_the_later_calls_stand(self):
        calls = [17, 0, 5, 104, 97, 108, 116, 10, 11, 1, 0, 12, 65, 2, 0, 1, 13, 12, 0, 14, 57344, 15, 49152]
        calls += [16, 3, 114, 101, 116, 16, 0, 17, 3, 1, 10, 18, 0, 1, 19, 4, 19, 0, 20, 0, 20, 1]
        expected = [1, 1, 2, 1, 1, 1, -1, 1, 49152, 1, 14, 4, 3, 114, 101, 116]
        expected += [1, 49152, 1, -4, 2, -6, 0, 6, 5, 104, 97, 108, 116, 10, 1, -1, 1, 0, 1, 0, 1, -4]
        self.assertEqual(answers(calls), expected)

    def test_one_call(self):
        self.assertEqual(answers([0]), [1, 0])
        self.assertEqual(answers([6]), [5, 0, 0, 0, 0, 0])

    def test_numbers_of_calls_within_rows_are_words(self):
        self.assertEqual(ask([put(0, list(range(21))), get(0, 21)]), [[21], [21] + list(range(21))])

    def test_longest(self):
        words = [65535 - k for k in range(2000)]
        calls = [put(2000 * k, words) for k in range(29)]
        calls += [feed(0, words[:64]), put(65520, words[:900])]
        calls += [get(2000 * k + 1936, 64) for k in range(29)]
        numbers = [number for call in calls for number in call]
        self.assertEqual(len(calls), 60)
        self.assertLessEqual(len(numbers), 60000)
        expected = [[2000]] * 29 + [[64], [-1]] + [[64] + words[1936:]] * 29
        self.assertIsNone(first_difference(parted(answers(numbers)), expected))

    def test_longest_with_all_that_is_slow(self):
        lines = "addi r1 r1 1\n" * 306 + "ret\n" * 5
        self.assertLessEqual(len(lines), 4000)
        calls = [load(0, lines), load(4000, lines[:-1]), load(65520, lines), put(3000, list(range(2000)))]
        for k in range(8):
            calls += [save(k % 4), run(2500, list(range(64))), listed(0, 64), back(k % 4), load(306 * k, lines)]
        calls += [go(0), state(), reg(1), told(), listed(3000, 64), code("r" * 200), get(0, 64), new()]
        calls += [back(3), trace(0), stop(1), word(0, [0] * 8), feed(0, [1] * 64), save(3), state(), reg(0)]
        self.assertEqual(len(calls), 60)
        numbers = [number for call in calls for number in call]
        self.assertLessEqual(len(numbers), 60000)
        rows = parted(answers(numbers))
        self.assertEqual(len(rows), 60)
        self.assertEqual(rows[:4], [[311], [-6, 310], [-1], [2000]])
        for k in range(8):
            told_lines = [832] + list(b"addi r1 r1 1\n" * 64)
            self.assertEqual(rows[4 + 5 * k][0], 0)
            self.assertEqual(rows[5 + 5 * k], [2500, 0])
            self.assertTrue(rows[6 + 5 * k] == told_lines)
            self.assertEqual(rows[7 + 5 * k:9 + 5 * k], [[0], [311]])
        self.assertEqual(rows[44:48], [[0], [0, 0, 0, 0, 0], [0], [0]])
        self.assertEqual(rows[49], [-4])
        self.assertEqual(rows[51:], [[0], [0], [0], [1], [-1], [64], [0], [0, 0, 0, 0, 0], [0]])

    def test_60_new(self):
        self.assertEqual(answers([0] * 60), [1, 0] * 60)

    def test_kept_as_handed_in_and_answered_alike_again(self):
        calls = BUSY + [put(65519, [1, 2]), get(0, 64), told(), clear(7), new(), feed(3, [4, 4]), state(), back(1)]
        calls += [go(32), trace(9, [3, 3, 1]), run(300, [4, 9]), load(0, "ret\n"), load(0, "nop\n"), code("halt")]
        calls += [word(2, [1, 2, 65535]), word(13, [5, 1]), read(8200), text(61440), listed(0, 9), back(0), told()]
        numbers = [number for call in calls for number in call]
        copied = list(numbers)
        first = answers(numbers)
        self.assertEqual(numbers, copied)
        second = answers(numbers)
        self.assertEqual(numbers, copied)
        self.assertEqual(first, second)

    def test_rows_handed_in_are_not_kept(self):
        """What is fed, put or saved in one list is not seen by the next one."""
        answers([number for call in BUSY for number in call])
        self.assertEqual(ask([back(1), state(), told(), feed(15, []), clear(7), get(0, 3)]), [
            [-4], [0, 0, 0, 0, 0], [0], [0], [-4], [3, 0, 0, 0],
        ])

    def test_not_changed_for_a_while_either(self):
        class Watched(list):
            def changed(self, *given):
                raise AssertionError("what is handed in is changed")

            append = clear = extend = insert = pop = remove = reverse = sort = changed
            __setitem__ = __delitem__ = __iadd__ = __imul__ = changed

        calls = BUSY + [put(7, [1, 2]), feed(1, [3, 4]), put(50, [0x5040]), set_to(1, 65521), go(50), run(2, [1, 2])]
        calls += [trace(3, [0]), word(3, [1, 2]), code("ret"), load(9, "ret\nhalt\n"), save(0), feed(1, [5]), back(0)]
        numbers = [number for call in calls for number in call]
        self.assertEqual(answers(Watched(numbers)), answers(numbers))

    def test_what_is_given_back_is_the_callers_own(self):
        first = answers([2, 0, 2, 6])
        first.append(7)
        first[1] = 9
        self.assertEqual(answers([2, 0, 2, 6]), [3, 2, 0, 0, 5, 0, 0, 0, 0, 0])

    def test_a_list_of_whole_numbers(self):
        given = answers([number for call in BUSY + [state(), told(), reg(0), clear(1)] for number in call])
        self.assertIs(type(given), list)
        self.assertEqual({type(number) for number in given}, {int})


if __name__ == "__main__":
    unittest.main()
