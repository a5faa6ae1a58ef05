"""The calls."""

from abacusmark.problems import read_sheet
from abacusmark.refusals import Fault
from abacusmark.refusals import TooLong
from abacusmark.solving import right_answer
from abacusmark.solving import written

MOST_BYTES = 16384


def check_length(text):
    if len(text) > MOST_BYTES:
        raise TooLong()


def problems_of(text):
    check_length(text)
    return read_sheet(text)


def sheet(text):
    """How many problems the sheet has."""
    try:
        problems = problems_of(text)
    except (TooLong, Fault) as refusal:
        return refusal.answered
    return [len(problems)]


def answer(i, sheet):
    """The right answer of problem i, counted from 0, written."""
    try:
        problems = problems_of(sheet)
    except (TooLong, Fault) as refusal:
        return refusal.answered
    if i >= len(problems):
        return [-4]
    problem = problems[i]
    return [0] + written(right_answer(problem), problem.places)
