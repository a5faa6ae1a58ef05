"""A second reading of the document, written apart from the package, for the tests to hold it against.

A sheet is told by patterns here, and a beginning by trying endings: it is one
just if some ending makes a sheet of it.
"""

import re
from fractions import Fraction
from functools import lru_cache

WHOLE = r"(?:0|-?[1-9][0-9]{0,17})"
DECIMAL = r"(-?(?:0|[1-9][0-9]{0,17})(?:\.[0-9]{1,9})?)"
PROBLEM = re.compile(
    r"[1-9][0-9]{0,2} (?:"
    r"sum ([0-9]+)\n"
    r"|product " + DECIMAL + " " + DECIMAL + r" ([0-9])\n"
    r"|quotient " + DECIMAL + " " + DECIMAL + r" ([0-9])\n"
    r"|root " + DECIMAL + r" ([0-9])\n)"
)
ROW = re.compile(WHOLE + r"\n")
ROW_COUNTS = [str(count) for count in range(2, 65)]


def as_bytes(words):
    return list(words.encode("latin-1"))


def is_decimal(words):
    return not (words.startswith("-") and Fraction(words) == 0)


def problem_end(words, start):
    """Where the problem that begins at start ends; None if there is none."""
    match = PROBLEM.match(words, start)
    if match is None:
        return None
    rows, first, second, places, dividend, divisor, places_too, radicand, places_still = match.groups()
    for decimal in (first, second, dividend, divisor, radicand):
        if decimal is not None and not is_decimal(decimal):
            return None
    if divisor is not None and Fraction(divisor) == 0:
        return None
    if radicand is not None and Fraction(radicand) < 0:
        return None
    end = match.end()
    if rows is None:
        return end
    if rows not in ROW_COUNTS:
        return None
    for row in range(int(rows)):
        match = ROW.match(words, end)
        if match is None:
            return None
        end = match.end()
    return end


def count_problems(words):
    """How many problems a sheet has; None if the words are no sheet."""
    count = 0
    at = 0
    while at < len(words):
        at = problem_end(words, at)
        if at is None:
            return None
        count += 1
    return count


def make_endings():
    models = [
        " sum 2\n1\n1\n",
        " product 1 1 1\n",
        " quotient 1 1 1\n",
        " root 1 1\n",
    ]
    endings = {}
    for model in models:
        for start in range(len(model) + 1):
            endings[model[start:]] = True
    for rows in range(65):
        endings["\n" + "1\n" * rows] = True
        endings["1\n" * rows] = True
    whole = []
    for first in ("", "0", "1", ".1"):
        for ending in endings:
            whole.append(first + ending)
    return whole


ENDINGS = make_endings()


@lru_cache(maxsize=None)
def is_beginning(words):
    return any(count_problems(words + ending) is not None for ending in ENDINGS)


def fault(words):
    """The fault of words that are no sheet."""
    place = 0
    while place < len(words) and is_beginning(words[:place + 1]):
        place += 1
    return place


def expected_sheet(words):
    count = count_problems(words)
    if count is not None:
        return [count]
    return [-5, 12, fault(words)]


def written(units, places):
    """The words for units of the last place, digit by digit from the right."""
    signs = ""
    rest = abs(units)
    for place in range(places):
        signs = str(rest % 10) + signs
        rest //= 10
    if places:
        signs = "." + signs
    signs = str(rest) + signs
    return "-" + signs if units < 0 else signs


def rounded(number, places):
    """A Fraction to so many places, of two as near the one farther from 0, written."""
    scaled = number * 10 ** places
    down = abs(scaled).numerator // abs(scaled).denominator
    if abs(scaled) - down >= Fraction(1, 2):
        down += 1
    return written(-down if scaled < 0 else down, places)


def is_nearest_root(words, number, places):
    """Whether the words are the root of a Fraction, to so many places, of two as near the greater."""
    answered = Fraction(words)
    half = Fraction(1, 2 * 10 ** places)
    if words != written(int(answered * 10 ** places), places):
        return False
    lowest = max(answered - half, 0)
    return lowest * lowest <= number < (answered + half) * (answered + half)
