"""Tests of ranks: promise 3 and the call 4."""

import itertools
import random
import time
import unittest

from abacusmark.sheets import ranks
from oracle import expected_ranks

LAST = 9223372036854775807
MOST = 16000
# A caller would wait so many seconds; comparing each with each takes far longer.
PATIENCE = 5


class RanksCase(unittest.TestCase):
    def ranked(self, points, times, expected):
        self.assertEqual(ranks(points, times), [0] + expected, (points, times))
        self.assertEqual(expected_ranks(points, times), [0] + expected, (points, times))


class Ranks(RanksCase):
    def test_nobody(self):
        self.ranked([], [], [])

    def test_one(self):
        for points in (0, 1, LAST):
            for seconds in (0, 1, LAST):
                self.ranked([points], [seconds], [1])

    def test_more_points_are_better(self):
        self.ranked([2, 1], [5, 5], [1, 2])
        self.ranked([1, 2], [5, 5], [2, 1])
        self.ranked([10, 30, 20], [5, 5, 5], [3, 1, 2])

    def test_more_points_are_better_whatever_the_time(self):
        self.ranked([2, 1], [LAST, 0], [1, 2])
        self.ranked([1, 2], [0, LAST], [2, 1])
        self.ranked([10, 30, 20], [0, 900, 90], [3, 1, 2])

    def test_of_as_many_points_less_time_is_better(self):
        self.ranked([7, 7], [5, 6], [1, 2])
        self.ranked([7, 7], [6, 5], [2, 1])
        self.ranked([0, 0, 0], [30, 10, 20], [3, 1, 2])

    def test_like_ones_have_the_same_rank_and_are_all_counted_behind(self):
        self.ranked([7, 7], [5, 5], [1, 1])
        self.ranked([7, 7, 7], [5, 5, 6], [1, 1, 3])
        self.ranked([9, 7, 7, 7, 6], [5, 5, 5, 5, 5], [1, 2, 2, 2, 5])
        self.ranked([6, 7, 7, 7, 9], [5, 5, 5, 5, 5], [5, 2, 2, 2, 1])
        self.ranked([7, 3, 7, 3, 7], [5, 5, 5, 5, 5], [1, 4, 1, 4, 1])
        self.ranked([0] * 50, [0] * 50, [1] * 50)

    def test_points_are_not_weighed_against_time(self):
        self.ranked([10, 9], [100, 1], [1, 2])
        self.ranked([5, 6, 5], [6, 5, 5], [3, 1, 2])
        self.ranked([100, 99, 100, 99], [60, 0, 61, 60], [1, 3, 2, 4])

    def test_numbers_at_their_bounds(self):
        self.ranked([0, LAST], [0, LAST], [2, 1])
        self.ranked([LAST, LAST], [0, LAST], [1, 2])
        self.ranked([0, 0], [LAST, 0], [2, 1])
        self.ranked([LAST, LAST - 1, LAST], [LAST, 0, LAST - 1], [2, 3, 1])
        self.ranked([0, 1, 0, 1], [LAST - 1, LAST, LAST, LAST], [3, 1, 4, 1])


class AnotherOrder(RanksCase):
    def test_every_order(self):
        pairs = [(9, 3), (9, 2), (9, 3), (4, 0), (4, 0), (0, 1)]
        rank_by_pair = {(9, 2): 1, (9, 3): 2, (4, 0): 4, (0, 1): 6}
        for order in itertools.permutations(pairs):
            points = [pair[0] for pair in order]
            times = [pair[1] for pair in order]
            self.assertEqual(ranks(points, times), [0] + [rank_by_pair[pair] for pair in order])

    def test_drawn_lists(self):
        draw = random.Random(17)
        for turn in range(600):
            length = draw.randrange(25)
            most = draw.choice((1, 2, 4, 30, LAST + 1))
            pairs = [(draw.randrange(most), draw.randrange(most)) for step in range(length)]
            points = [pair[0] for pair in pairs]
            times = [pair[1] for pair in pairs]
            answered = ranks(points, times)
            self.assertEqual(answered, expected_ranks(points, times), pairs)
            order = list(range(length))
            draw.shuffle(order)
            turned = ranks([points[k] for k in order], [times[k] for k in order])
            self.assertEqual(turned, [0] + [answered[1 + k] for k in order], pairs)


class NotAsMany(unittest.TestCase):
    def test_either_one_the_longer(self):
        for longer in ([1], [1, 2], [LAST] * 5, [3] * MOST):
            for length in (0, 1, len(longer) - 1):
                if length < len(longer):
                    self.assertEqual(ranks(longer, longer[:length]), [-1])
                    self.assertEqual(ranks(longer[:length], longer), [-1])


class ManyOfThem(unittest.TestCase):
    def in_time(self, points, times):
        start = time.process_time()
        answered = ranks(points, times)
        self.assertLess(time.process_time() - start, PATIENCE)
        return answered

    def test_all_unlike(self):
        up = list(range(MOST))
        down = list(reversed(up))
        self.assertEqual(self.in_time(up, [7] * MOST), [0] + list(range(MOST, 0, -1)))
        self.assertEqual(self.in_time(down, up), [0] + list(range(1, MOST + 1)))
        self.assertEqual(self.in_time([7] * MOST, down), [0] + list(range(MOST, 0, -1)))

    def test_all_alike(self):
        self.assertEqual(self.in_time([LAST] * MOST, [LAST] * MOST), [0] + [1] * MOST)

    def test_two_sorts(self):
        points = [0, LAST] * (MOST // 2)
        times = [LAST, 0] * (MOST // 2)
        self.assertEqual(self.in_time(points, times), [0] + [MOST // 2 + 1, 1] * (MOST // 2))


class Kept(unittest.TestCase):
    cases = (
        ([], []),
        ([3, 1, 2, 3], [4, 4, 4, 4]),
        ([0, 0, 0], [3, 1, 2]),
        ([1], [1, 2]),
        ([2, 1], [1]),
    )

    def test_nothing_is_changed_and_nothing_kept(self):
        for points, times in self.cases:
            points_list = list(points)
            times_list = list(times)
            first = ranks(points_list, times_list)
            self.assertEqual(points_list, points)
            self.assertEqual(times_list, times)
            first.append(99)
            ranks([9, 8, 7], [1, 2, 3])
            self.assertEqual(ranks(points_list, times_list) + [99], first)

    def test_one_list_for_both(self):
        both = [3, 1, 2, 3]
        self.assertEqual(ranks(both, both), [0, 1, 4, 3, 1])
        self.assertEqual(both, [3, 1, 2, 3])

    def test_what_is_answered_is_a_list_of_whole_numbers(self):
        for points, times in self.cases:
            answered = ranks(points, times)
            self.assertIs(type(answered), list)
            for number in answered:
                self.assertIs(type(number), int)

    def test_the_arguments_by_name(self):
        self.assertEqual(ranks(points=[1, 2], times=[0, 9]), [0, 2, 1])


if __name__ == "__main__":
    unittest.main()
