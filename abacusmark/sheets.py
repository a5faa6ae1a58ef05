"""The calls."""

from abacusmark.problems import read_sheet
from abacusmark.refusals import Fault
from abacusmark.refusals import TooLong

MOST_BYTES = 16384


def check_length(text):
    if len(text) > MOST_BYTES:
        raise TooLong()


def sheet(text):
    """How many problems the sheet has."""
    try:
        check_length(text)
        problems = read_sheet(text)
    except (TooLong, Fault) as refusal:
        return refusal.answered
    return [len(problems)]
