"""feed and told."""

import unittest

from asking import ask, feed, last, look, new, told

from chiphouse.world import World, feed_words, tell_words


class Feed(unittest.TestCase):
    def test_answers_how_many_wait_then(self):
        calls = [feed(3, [5]), feed(3, [0, 65535]), feed(3, [])]
        self.assertEqual(ask(calls), [[1], [3], [3]])

    def test_empty_row_where_none_wait(self):
        self.assertEqual(last([feed(0, [])]), [0])

    def test_each_place_has_its_own(self):
        calls = [feed(k, [9] * k) for k in range(16)] + [feed(k, []) for k in range(16)]
        self.assertEqual(ask(calls), [[k] for k in range(16)] * 2)

    def test_k_above_15(self):
        self.assertEqual(ask([feed(15, [1]), feed(16, [1]), feed(15, [])]), [[1], [-1], [1]])
        for k in (16, 17, 65520, 65535):
            self.assertEqual(ask([feed(k, []), feed(k, [1, 2]), feed(0, [])]), [[-1], [-1], [0]], k)

    def test_just_64_wait(self):
        self.assertEqual(ask([feed(15, [1] * 64), feed(15, [])]), [[64], [64]])
        self.assertEqual(ask([feed(0, [1] * 60), feed(0, [2] * 4)]), [[60], [64]])

    def test_more_than_64_would_wait(self):
        self.assertEqual(ask([feed(2, [1] * 64), feed(2, [1]), feed(2, [])]), [[64], [-3], [64]])
        calls = [feed(2, [1] * 60), feed(2, [2] * 5), feed(2, []), feed(2, [2] * 4)]
        self.assertEqual(ask(calls), [[60], [-3], [60], [64]])
        self.assertEqual(ask([feed(2, [1]), feed(2, [2] * 64), feed(2, [])]), [[1], [-3], [1]])

    def test_full_at_one_place_leaves_room_at_another(self):
        self.assertEqual(ask([feed(2, [1] * 64), feed(3, [1] * 64)]), [[64], [64]])

    def test_both_refusals_at_once(self):
        calls = [feed(15, [1] * 64), feed(16, [1] * 64), feed(16, [1]), feed(65535, [1] * 64)]
        self.assertEqual(ask(calls), [[64], [-1], [-1], [-1]])

    def test_a_refused_feed_changes_nothing(self):
        before = [feed(4, [1] * 40)]
        for call in (feed(4, [2] * 25), feed(16, [2]), feed(16, [2] * 64)):
            self.assertEqual(look(before + [call]), look(before))

    def test_these_wait_behind_the_others(self):
        world = World()
        feed_words(world, 6, [3, 1])
        feed_words(world, 6, [2])
        feed_words(world, 6, [5] * 62)
        self.assertEqual(world.waiting[6], [3, 1, 2])


class Told(unittest.TestCase):
    def test_nothing(self):
        self.assertEqual(ask([told(), told(), new(), told()]), [[0], [0], [0], [0]])

    def test_what_is_fed_is_not_told(self):
        self.assertEqual(last([feed(1, [4, 5]), told()]), [0])

    def test_each_with_its_number_the_first_first_and_once(self):
        world = World()
        world.untold = [(15, 7), (0, 65535), (15, 7)]
        self.assertEqual(tell_words(world), [3, 15, 7, 0, 65535, 15, 7])
        self.assertEqual(tell_words(world), [0])


if __name__ == "__main__":
    unittest.main()
