"""stop and clear."""

import unittest

from asking import ask, clear, last, look, stop


class Stop(unittest.TestCase):
    def test_once_and_twice(self):
        for p in (0, 5, 65519, 65520, 65535):
            self.assertEqual(ask([stop(p), stop(p), stop(p)]), [[1], [0], [0]], p)

    def test_16_and_a_17th(self):
        calls = [stop(p) for p in range(16)] + [stop(16), stop(15), stop(0), stop(16)]
        self.assertEqual(ask(calls), [[1]] * 16 + [[-3], [0], [0], [-3]])

    def test_the_same_stop_again_takes_no_room(self):
        calls = [stop(0)] * 20 + [stop(p) for p in range(1, 17)]
        self.assertEqual(ask(calls), [[1]] + [[0]] * 19 + [[1]] * 15 + [[-3]])

    def test_a_cleared_one_leaves_room(self):
        calls = [stop(p) for p in range(16)] + [clear(3), stop(16), stop(3), clear(16), stop(3)]
        self.assertEqual(ask(calls), [[1]] * 16 + [[0], [1], [-3], [0], [1]])

    def test_a_refused_stop_is_none(self):
        calls = [stop(p) for p in range(16)] + [stop(99), clear(99)]
        self.assertEqual(ask(calls)[-2:], [[-3], [-4]])


class Clear(unittest.TestCase):
    def test_one_that_is_none(self):
        for p in (0, 65535):
            self.assertEqual(ask([clear(p), stop(p), clear(p), clear(p)]), [[-4], [1], [0], [-4]], p)

    def test_another_one_stays(self):
        self.assertEqual(ask([stop(4), stop(5), clear(4), clear(6), stop(5)]), [[1], [1], [0], [-4], [0]])

    def test_a_stop_again_behind_its_clear(self):
        self.assertEqual(ask([stop(4), clear(4), stop(4), stop(4)]), [[1], [0], [1], [0]])

    def test_a_refused_clear_changes_nothing(self):
        before = [stop(4), stop(65535)]
        self.assertEqual(last(before + [clear(5)]), [-4])
        self.assertEqual(look(before + [clear(5)], (4, 5, 65535)), look(before, (4, 5, 65535)))


if __name__ == "__main__":
    unittest.main()
