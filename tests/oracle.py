"""A second reading of the document, written apart from the package, for the tests to hold it against.

A sheet and answers are told by patterns here, and a beginning by trying
endings: it is one just if some ending makes a text of the kind of it.
"""

import re
from fractions import Fraction
from functools import lru_cache
from math import floor

WHOLE = r"(?:0|-?[1-9][0-9]{0,17})"
DECIMAL = r"(-?(?:0|[1-9][0-9]{0,17})(?:\.[0-9]{1,9})?)"
PROBLEM = re.compile(
    r"[1-9][0-9]{0,2} (?:"
    r"sum ([0-9]+)\n"
    r"|product " + DECIMAL + " " + DECIMAL + r" ([0-9])\n"
    r"|quotient " + DECIMAL + " " + DECIMAL + r" ([0-9])\n"
    r"|root " + DECIMAL + r" ([0-9])\n)"
)
ROW = re.compile(WHOLE + r"\n")
ROW_COUNTS = [str(count) for count in range(2, 65)]


def as_bytes(words):
    return list(words.encode("latin-1"))


def is_decimal(words):
    return not (words.startswith("-") and Fraction(words) == 0)


def problem_end(words, start):
    """Where the problem that begins at start ends; None if there is none."""
    match = PROBLEM.match(words, start)
    if match is None:
        return None
    rows, first, second, places, dividend, divisor, places_too, radicand, places_still = match.groups()
    for decimal in (first, second, dividend, divisor, radicand):
        if decimal is not None and not is_decimal(decimal):
            return None
    if divisor is not None and Fraction(divisor) == 0:
        return None
    if radicand is not None and Fraction(radicand) < 0:
        return None
    end = match.end()
    if rows is None:
        return end
    if rows not in ROW_COUNTS:
        return None
    for row in range(int(rows)):
        match = ROW.match(words, end)
        if match is None:
            return None
        end = match.end()
    return end


def count_problems(words):
    """How many problems a sheet has; None if the words are no sheet."""
    count = 0
    at = 0
    while at < len(words):
        at = problem_end(words, at)
        if at is None:
            return None
        count += 1
    return count


def make_endings():
    models = [
        " sum 2\n1\n1\n",
        " product 1 1 1\n",
        " quotient 1 1 1\n",
        " root 1 1\n",
    ]
    endings = {}
    for model in models:
        for start in range(len(model) + 1):
            endings[model[start:]] = True
    for rows in range(65):
        endings["\n" + "1\n" * rows] = True
        endings["1\n" * rows] = True
    whole = []
    for first in ("", "0", "1", ".1"):
        for ending in endings:
            whole.append(first + ending)
    return whole


ENDINGS = make_endings()


@lru_cache(maxsize=None)
def is_beginning(words):
    return any(count_problems(words + ending) is not None for ending in ENDINGS)


def longest(words, is_begun):
    """The length of the longest beginning of the words that is_begun says to be one."""
    place = 0
    while place < len(words) and is_begun(words[:place + 1]):
        place += 1
    return place


def fault(words):
    """The fault of words that are no sheet."""
    return longest(words, is_beginning)


def expected_sheet(words):
    count = count_problems(words)
    if count is not None:
        return [count]
    return [-5, 12, fault(words)]


NUMBER = r"-?(?:0|[1-9][0-9]{0,39})(?:\.[0-9]{1,9})?"
ANSWERS = re.compile(r"time (?:0|[1-9][0-9]{0,4})\n(?:(?:-|" + NUMBER + r")\n)*")
ANSWERS_ENDINGS = ["time 1\n"[start:] for start in range(8)] + ["1\n", ".1\n"]


def are_answers(words):
    if ANSWERS.fullmatch(words) is None:
        return False
    return all(line == "-" or is_decimal(line) for line in words.split("\n")[1:-1])


@lru_cache(maxsize=None)
def begins_answers(words):
    return any(are_answers(words + ending) for ending in ANSWERS_ENDINGS)


def answers_fault(words):
    """The fault of words that are no answers."""
    return longest(words, begins_answers)


def written(units, places):
    """The words for units of the last place, digit by digit from the right."""
    signs = ""
    rest = abs(units)
    for place in range(places):
        signs = str(rest % 10) + signs
        rest //= 10
    if places:
        signs = "." + signs
    signs = str(rest) + signs
    return "-" + signs if units < 0 else signs


def rounded(number, places):
    """A Fraction to so many places, of two as near the one farther from 0, written."""
    scaled = number * 10 ** places
    down = abs(scaled).numerator // abs(scaled).denominator
    if abs(scaled) - down >= Fraction(1, 2):
        down += 1
    return written(-down if scaled < 0 else down, places)


def is_nearest_root(words, number, places):
    """Whether the words are the root of a Fraction, to so many places, of two as near the greater."""
    answered = Fraction(words)
    half = Fraction(1, 2 * 10 ** places)
    if answered < 0 or words != written(int(answered * 10 ** places), places):
        return False
    lowest = max(answered - half, 0)
    return lowest * lowest <= number < (answered + half) * (answered + half)


def split_problems(words):
    """Of each problem of a sheet its points, its kind, its numbers and its places."""
    problems = []
    lines = words.split("\n")[:-1]
    while lines:
        points, kind, *rest = lines.pop(0).split(" ")
        if kind == "sum":
            rows = int(rest[0])
            numbers, lines = lines[:rows], lines[rows:]
            places = 0
        else:
            *numbers, places = rest
        problems.append((int(points), kind, [Fraction(number) for number in numbers], int(places)))
    return problems


def is_right(problem, words):
    """Whether the words of an answer are a writing of the problem's right answer."""
    points, kind, numbers, places = problem
    answered = Fraction(words)
    units = answered * 10 ** places
    if units.denominator != 1:
        return False
    if kind == "root":
        return is_nearest_root(written(int(units), places), numbers[0], places)
    if kind == "sum":
        return answered == sum(numbers)
    if kind == "product":
        return answered == Fraction(rounded(numbers[0] * numbers[1], places))
    return answered == Fraction(rounded(numbers[0] / numbers[1], places))


def expected_points(limit, minus, bonus, seconds, problems, marks):
    if 0 < limit < seconds:
        return 0
    points = 0
    for problem, mark in zip(problems, marks):
        points += problem[0] if mark == 1 else 0
    for mark in marks:
        points -= minus if mark == 2 else 0
    points = max(points, 0)
    if limit > 0 and marks and set(marks) == {1}:
        while seconds + 60 <= limit:
            points += bonus
            seconds += 60
    return points


def expected_mark(limit, minus, bonus, sheet, answers):
    if len(sheet) > 16384 or len(answers) > 16384:
        return [-6]
    if count_problems(sheet) is None:
        return [-5, 12, fault(sheet)]
    if not are_answers(answers):
        return [-5, 13, answers_fault(answers)]
    if limit > 99999 or minus > 9999 or bonus > 9999:
        return [-1]
    problems = split_problems(sheet)
    first, *lines = answers.split("\n")[:-1]
    if len(lines) > len(problems):
        return [-3]
    lines += ["-"] * (len(problems) - len(lines))
    marks = []
    for problem, words in zip(problems, lines):
        marks.append(0 if words == "-" else 1 if is_right(problem, words) else 2)
    seconds = int(first[5:])
    points = expected_points(limit, minus, bonus, seconds, problems, marks)
    return [0, points, marks.count(1), marks.count(2), marks.count(0), seconds] + marks


def expected_ranks(points, times):
    if len(points) != len(times):
        return [-1]
    answered = [0]
    for own in zip(points, times):
        better = 0
        for other in zip(points, times):
            if other[0] > own[0] or (other[0] == own[0] and other[1] < own[1]):
                better += 1
        answered.append(1 + better)
    return answered


def expected_grade(points, bounds):
    above = 0
    for bound in bounds:
        above += 1 if bound > points else 0
    return [len(bounds) - above]


def drawn_facts(seed, rows, digits):
    """Of each row that is drawn its number, without a sign, and whether the x behind it isn't below 2^63."""
    xs = [seed]
    for step in range(2 * rows):
        xs.append((6364136223846793005 * xs[-1] + 1442695040888963407) & (2 ** 64 - 1))
    least = 10 ** (digits - 1)
    facts = []
    for row in range(rows):
        more = floor(Fraction(xs[2 * row + 1], 2 ** 64) * 9 * least)
        facts.append((least + more, not xs[2 * row + 2] < 2 ** 63))
    return facts


def expected_draw(seed, rows, digits):
    if seed >> 64 or rows not in range(2, 65) or digits not in range(1, 19):
        return [-1]
    words = f"10 sum {rows}\n"
    together = 0
    for number, is_high in drawn_facts(seed, rows, digits):
        if is_high and not together < number:
            words += f"-{number}\n"
            together -= number
        else:
            words += f"{number}\n"
            together += number
    return [0] + as_bytes(words)
