"""feed and told."""

import unittest

from asking import ask, feed, last, look, new, program, run, set_to, told


class Feed(unittest.TestCase):
    def test_answers_how_many_wait_then(self):
        calls = [feed(3, [5]), feed(3, [0, 65535]), feed(3, [])]
        self.assertEqual(ask(calls), [[1], [3], [3]])

    def test_empty_row_where_none_wait(self):
        self.assertEqual(last([feed(0, [])]), [0])

    def test_each_place_has_its_own(self):
        calls = [feed(k, [9] * k) for k in range(16)] + [feed(k, []) for k in range(16)]
        self.assertEqual(ask(calls), [[k] for k in range(16)] * 2)

    def test_k_above_15(self):
        self.assertEqual(ask([feed(15, [1]), feed(16, [1]), feed(15, [])]), [[1], [-1], [1]])
        for k in (16, 17, 65520, 65535):
            self.assertEqual(ask([feed(k, []), feed(k, [1, 2]), feed(0, [])]), [[-1], [-1], [0]], k)

    def test_just_64_wait(self):
        self.assertEqual(ask([feed(15, [1] * 64), feed(15, [])]), [[64], [64]])
        self.assertEqual(ask([feed(0, [1] * 60), feed(0, [2] * 4)]), [[60], [64]])

    def test_more_than_64_would_wait(self):
        self.assertEqual(ask([feed(2, [1] * 64), feed(2, [1]), feed(2, [])]), [[64], [-3], [64]])
        calls = [feed(2, [1] * 60), feed(2, [2] * 5), feed(2, []), feed(2, [2] * 4)]
        self.assertEqual(ask(calls), [[60], [-3], [60], [64]])
        self.assertEqual(ask([feed(2, [1]), feed(2, [2] * 64), feed(2, [])]), [[1], [-3], [1]])

    def test_full_at_one_place_leaves_room_at_another(self):
        self.assertEqual(ask([feed(2, [1] * 64), feed(3, [1] * 64)]), [[64], [64]])

    def test_both_refusals_at_once(self):
        calls = [feed(15, [1] * 64), feed(16, [1] * 64), feed(16, [1]), feed(65535, [1] * 64)]
        self.assertEqual(ask(calls), [[64], [-1], [-1], [-1]])

    def test_a_refused_feed_changes_nothing(self):
        before = [feed(4, [1] * 40)]
        for call in (feed(4, [2] * 25), feed(16, [2]), feed(16, [2] * 64)):
            self.assertEqual(look(before + [call]), look(before))

    def test_these_wait_behind_the_others(self):
        calls = [feed(6, [3, 1]), feed(6, [2]), feed(6, [5] * 62), feed(7, [9])]
        self.assertEqual(ask(calls), [[2], [3], [-3], [1]])
        self.assertEqual(look(calls)["waiting"], {6: [3, 1, 2], 7: [9]})


class Told(unittest.TestCase):
    def test_nothing(self):
        self.assertEqual(ask([told(), told(), new(), told()]), [[0], [0], [0], [0]])

    def test_what_is_fed_is_not_told(self):
        self.assertEqual(last([feed(1, [4, 5]), told()]), [0])

    def test_each_with_its_number_the_first_first_and_once(self):
        lines = ("st r1 r0 -1", "st r2 r0 -16", "st r1 r0 -1")
        calls = [set_to(1, 7), set_to(2, 65535), program(0, *lines), run(3), told(), told()]
        self.assertEqual(ask(calls)[4:], [[3, 15, 7, 0, 65535, 15, 7], [0]])

    def test_since_new(self):
        before = [set_to(1, 7), program(0, "st r1 r0 -1", "st r1 r0 -1"), run(2)]
        self.assertEqual(ask(before + [new(), told()])[3:], [[0], [0]])

    def test_put_in_memory_is_not_told(self):
        self.assertEqual(last([program(0, "st r1 r0 5", "st r1 r0 -17"), run(2), told()]), [0])


if __name__ == "__main__":
    unittest.main()
