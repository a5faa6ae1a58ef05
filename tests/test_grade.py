"""Tests of grade: the call 5."""

import itertools
import random
import unittest

from abacusmark.sheets import grade
from oracle import expected_grade

LAST = 9223372036854775807
MOST = 16000


class GradeCase(unittest.TestCase):
    def graded(self, points, bounds, count):
        self.assertEqual(grade(points, bounds), [count], (points, bounds[:20]))
        self.assertEqual(expected_grade(points, bounds), [count], (points, bounds[:20]))


class Grades(GradeCase):
    def test_no_bounds(self):
        for points in (0, 1, 50, LAST):
            self.graded(points, [], 0)

    def test_one_bound_below_at_and_above(self):
        for points in (1, 2, 50, 100, LAST - 1):
            self.graded(points, [points - 1], 1)
            self.graded(points, [points], 1)
            self.graded(points, [points + 1], 0)

    def test_several_bounds(self):
        self.graded(45, [20, 40, 60, 80], 2)
        self.graded(40, [20, 40, 60, 80], 2)
        self.graded(39, [20, 40, 60, 80], 1)
        self.graded(19, [20, 40, 60, 80], 0)
        self.graded(80, [20, 40, 60, 80], 4)
        self.graded(81, [20, 40, 60, 80], 4)

    def test_bounds_that_are_alike_count_each(self):
        self.graded(5, [5, 5], 2)
        self.graded(5, [4, 4, 4], 3)
        self.graded(5, [6, 6, 6], 0)
        self.graded(5, [5, 6, 5, 4, 6, 4, 5], 5)

    def test_bounds_in_any_order(self):
        rising = [0, 10, 20, 30, 40]
        falling = [40, 30, 20, 10, 0]
        mixed = [20, 40, 0, 30, 10]
        for points, count in ((0, 1), (9, 1), (10, 2), (11, 2), (25, 3), (30, 4), (39, 4), (40, 5), (41, 5)):
            for bounds in (rising, falling, mixed):
                self.graded(points, bounds, count)

    def test_every_order(self):
        for order in itertools.permutations([3, 7, 7, 8, 20, 0]):
            self.graded(7, list(order), 4)

    def test_nought(self):
        self.graded(0, [0], 1)
        self.graded(0, [0, 0, 0], 3)
        self.graded(0, [1], 0)
        self.graded(0, [0, 1, 0, LAST], 2)
        self.graded(1, [0], 1)
        self.graded(LAST, [0, 0], 2)

    def test_numbers_at_their_bounds(self):
        self.graded(LAST, [LAST], 1)
        self.graded(LAST, [LAST - 1], 1)
        self.graded(LAST - 1, [LAST], 0)
        self.graded(0, [LAST], 0)
        self.graded(LAST, [LAST, 0, LAST - 1, LAST], 4)
        self.graded(LAST - 1, [LAST, 0, LAST - 1, LAST], 2)

    def test_numbers_that_lie_close_far_up(self):
        # As floats all of these would be the same.
        for points in (2 ** 53, 2 ** 53 + 1, 2 ** 62 + 1, LAST - 2):
            self.graded(points, [points - 2, points - 1, points, points + 1, points + 2], 3)


class ManyBounds(GradeCase):
    def test_rising_and_falling(self):
        rising = list(range(MOST))
        falling = list(reversed(rising))
        for bounds in (rising, falling):
            self.graded(0, bounds, 1)
            self.graded(7999, bounds, 8000)
            self.graded(MOST - 2, bounds, MOST - 1)
            self.graded(MOST - 1, bounds, MOST)
            self.graded(LAST, bounds, MOST)

    def test_alike(self):
        self.graded(LAST, [LAST] * MOST, MOST)
        self.graded(LAST - 1, [LAST] * MOST, 0)
        self.graded(0, [0] * MOST, MOST)

    def test_by_turns(self):
        self.graded(5, [LAST, 5] * (MOST // 2), MOST // 2)
        self.graded(4, [LAST, 5] * (MOST // 2), 0)


class DrawnBounds(unittest.TestCase):
    def test_drawn_bounds(self):
        draw = random.Random(19)
        for turn in range(1000):
            most = draw.choice((1, 2, 5, 100, LAST + 1))
            bounds = [draw.randrange(most) for step in range(draw.randrange(30))]
            points = draw.choice(bounds + [draw.randrange(most)])
            expected = expected_grade(points, bounds)
            self.assertEqual(grade(points, bounds), expected, (points, bounds))
            draw.shuffle(bounds)
            self.assertEqual(grade(points, bounds), expected, (points, bounds))


class Kept(unittest.TestCase):
    cases = (
        (0, []),
        (5, [9, 5, 1, 5]),
        (0, [3, 2, 1]),
        (LAST, [LAST, 0]),
        (7, [7] * MOST),
    )

    def test_nothing_is_changed_and_nothing_kept(self):
        for points, bounds in self.cases:
            handed = list(bounds)
            first = grade(points, handed)
            self.assertEqual(handed, bounds)
            first.append(99)
            grade(8, [1, 2, 9])
            self.assertEqual(grade(points, handed) + [99], first)
            self.assertEqual(handed, bounds)

    def test_what_is_answered_is_a_list_of_one_whole_number(self):
        for points, bounds in self.cases:
            answered = grade(points, bounds)
            self.assertIs(type(answered), list)
            self.assertEqual(len(answered), 1)
            self.assertIs(type(answered[0]), int)

    def test_the_arguments_by_name(self):
        self.assertEqual(grade(points=5, bounds=[9, 5, 1]), [2])


if __name__ == "__main__":
    unittest.main()
