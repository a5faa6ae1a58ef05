"""The calls."""

from abacusmark.answers import read_answers
from abacusmark.drawing import can_be_drawn
from abacusmark.drawing import drawn_sheet
from abacusmark.marking import LEFT_OUT
from abacusmark.marking import RIGHT
from abacusmark.marking import WRONG
from abacusmark.marking import are_rules
from abacusmark.marking import marks_of
from abacusmark.marking import points_in_time
from abacusmark.marking import points_of_marks
from abacusmark.problems import read_sheet
from abacusmark.ranking import ranks_of
from abacusmark.refusals import Fault
from abacusmark.refusals import TooLong
from abacusmark.solving import right_answer
from abacusmark.solving import written

MOST_BYTES = 16384


def check_length(text):
    if len(text) > MOST_BYTES:
        raise TooLong()


def problems_of(text):
    check_length(text)
    return read_sheet(text)


def bytes_of(words):
    return [ord(sign) for sign in words]


def sheet(text):
    """How many problems the sheet has."""
    try:
        problems = problems_of(text)
    except (TooLong, Fault) as refusal:
        return refusal.answered
    return [len(problems)]


def answer(i, sheet):
    """The right answer of problem i, counted from 0, written."""
    try:
        problems = problems_of(sheet)
    except (TooLong, Fault) as refusal:
        return refusal.answered
    if i >= len(problems):
        return [-4]
    problem = problems[i]
    return [0] + bytes_of(written(right_answer(problem), problem.places))


def mark(limit, minus, bonus, sheet, answers):
    """Points, how many are right, wrong and left out, the time, then each problem's mark."""
    try:
        # Either text's length is looked at ahead of any fault.
        check_length(sheet)
        check_length(answers)
        problems = read_sheet(sheet)
        handed_in = read_answers(answers)
    except (TooLong, Fault) as refusal:
        return refusal.answered
    if not are_rules(limit, minus, bonus):
        return [-1]
    if len(handed_in.numbers) > len(problems):
        return [-3]
    seconds = handed_in.seconds
    marks = marks_of(problems, handed_in.numbers)
    gained = points_of_marks(problems, marks, minus)
    points = points_in_time(gained, marks, seconds, limit, bonus)
    counts = [marks.count(RIGHT), marks.count(WRONG), marks.count(LEFT_OUT)]
    return [0, points] + counts + [seconds] + marks


def ranks(points, times):
    """The rank of each: 1 more than how many have more points, or as many in less time."""
    if len(points) != len(times):
        return [-1]
    # More points are better, but less time is: with the points negated, less of either is better.
    standings = [(-earned, seconds) for earned, seconds in zip(points, times)]
    return [0] + ranks_of(standings)


def grade(points, bounds):
    """How many of the bounds are not above the points."""
    return [len([bound for bound in bounds if bound <= points])]


def draw(seed, rows, digits):
    """A sheet of one sum, drawn from the seed."""
    if not can_be_drawn(seed, rows, digits):
        return [-1]
    return [0] + bytes_of(drawn_sheet(seed, rows, digits))
