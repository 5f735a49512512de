"""put and get."""

import unittest

from asking import MEMORY_SIZE, ask, get, last, memory_behind, put


class Put(unittest.TestCase):
    def test_answers_how_many_and_they_stand_from_p_on(self):
        self.assertEqual(ask([put(5, [7, 0, 65535]), get(4, 5)]), [[3], [5, 0, 7, 0, 65535, 0]])

    def test_at_address_0(self):
        self.assertEqual(ask([put(0, [1]), get(0, 2)]), [[1], [2, 1, 0]])

    def test_stands_over_what_was_there(self):
        calls = [put(10, [1, 2, 3, 4]), put(11, [8, 9]), get(10, 4)]
        self.assertEqual(ask(calls), [[4], [2], [4, 1, 8, 9, 4]])

    def test_empty_row_puts_nothing(self):
        self.assertEqual(ask([put(3, [6]), put(3, []), get(3, 1)]), [[1], [0], [1, 6]])

    def test_empty_row_at_and_above_the_end(self):
        for p in (65519, 65520, 65521, 65535):
            self.assertEqual(last([put(p, [])]), [0], p)

    def test_ends_just_at_the_last_word(self):
        self.assertEqual(ask([put(65519, [9]), get(65519, 1)]), [[1], [1, 9]])
        self.assertEqual(ask([put(65517, [7, 8, 9]), get(65516, 4)]), [[3], [4, 0, 7, 8, 9]])

    def test_above_the_end_is_refused_and_nothing_of_it_is_put(self):
        for p, words in ((65520, [1]), (65519, [1, 2]), (65518, [1, 2, 3]), (65535, [1]), (65535, [1, 2])):
            calls = [put(65515, [4, 4, 4, 4, 4]), put(p, words), get(65515, 5), get(0, 20)]
            self.assertEqual(ask(calls), [[5], [-1], [5, 4, 4, 4, 4, 4], [20] + [0] * 20], (p, words))

    def test_a_refused_row_is_passed_over_whole(self):
        self.assertEqual(ask([put(65519, [3, 3]), put(1, [5]), get(1, 1)]), [[-1], [1], [1, 5]])

    def test_2000_words(self):
        words = [65535 - k for k in range(2000)]
        for p in (0, 300, MEMORY_SIZE - 2000):
            whole = {p + k: word for k, word in enumerate(words)}
            self.assertEqual(last([put(p, words)]), [2000])
            self.assertEqual(memory_behind([put(p, words)]), whole)
        self.assertEqual(last([put(MEMORY_SIZE - 1999, words)]), [-1])
        self.assertEqual(memory_behind([put(MEMORY_SIZE - 1999, words)]), {})


class Get(unittest.TestCase):
    def test_memory_is_0_at_first(self):
        self.assertEqual(memory_behind([]), {})

    def test_n_0(self):
        for p in (0, 65519, 65520, 65535):
            self.assertEqual(last([get(p, 0)]), [0], p)

    def test_n_64(self):
        words = list(range(100, 164))
        self.assertEqual(last([put(1000, words), get(1000, 64)]), [64] + words)

    def test_n_above_64(self):
        for n in (65, 66, 65535):
            self.assertEqual(last([get(0, n)]), [-1], n)
            self.assertEqual(last([get(65535, n)]), [-1], n)

    def test_up_to_the_last_word_and_no_further(self):
        self.assertEqual(last([get(65519, 1)]), [1, 0])
        self.assertEqual(last([get(65456, 64)]), [64] + [0] * 64)
        for p, n in ((65520, 1), (65519, 2), (65457, 64), (65535, 1), (65535, 64)):
            self.assertEqual(last([get(p, n)]), [-1], (p, n))


if __name__ == "__main__":
    unittest.main()
