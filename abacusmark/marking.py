"""The marks of answers, and the points that they give."""

from abacusmark.exact import ten_to
from abacusmark.solving import right_answer

LEFT_OUT = 0
RIGHT = 1
WRONG = 2

MOST_LIMIT = 99999
MOST_MINUS = 9999
MOST_BONUS = 9999
MINUTE = 60


def are_rules(limit, minus, bonus):
    return 0 <= limit <= MOST_LIMIT and 0 <= minus <= MOST_MINUS and 0 <= bonus <= MOST_BONUS


def mark_of(problem, number):
    """The mark of a problem by the number that was answered, None if it was left out."""
    if number is None:
        return LEFT_OUT
    if number.units * ten_to(problem.places) == right_answer(problem) * number.scale:
        return RIGHT
    return WRONG


def marks_of(problems, numbers):
    """The mark of each problem; there are no more numbers than problems."""
    marks = [mark_of(problem, number) for problem, number in zip(problems, numbers)]
    return marks + [LEFT_OUT] * (len(problems) - len(numbers))


def are_all_right(marks):
    return len(marks) > 0 and marks.count(RIGHT) == len(marks)


def points_of_marks(problems, marks, minus):
    """What the marks give by themselves, whatever the time."""
    gained = sum([problem.points for problem, mark in zip(problems, marks) if mark == RIGHT])
    return max(0, gained - minus * marks.count(WRONG))


def points_in_time(points, marks, seconds, limit, bonus):
    """What becomes of the marks' points by the time."""
    if limit == 0:
        return points
    if seconds > limit:
        return 0
    if are_all_right(marks):
        return points + bonus * ((limit - seconds) // MINUTE)
    return points
