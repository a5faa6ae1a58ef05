"""Tests of what the document promises over the whole program: promises 1 to 5, and that nothing is kept."""

import contextlib
import copy
import inspect
import io
import random
import sys
import unittest
from fractions import Fraction

from abacusmark.sheets import answer, draw, grade, mark, ranks, sheet
from oracle import (
    answers_fault,
    are_answers,
    as_bytes,
    count_problems,
    expected_draw,
    expected_grade,
    expected_mark,
    expected_points,
    expected_ranks,
    expected_sheet,
    fault,
    is_right,
    split_problems,
    written,
)

LAST = 9223372036854775807


def drawn_decimal(source, may_be_below, may_be_nought):
    units = source.randrange(10 ** source.randrange(1, 28))
    places = source.randrange(10)
    if units >= 10 ** (18 + places):
        units //= 10 ** 9
    if units == 0 and not may_be_nought:
        units = 1
    if may_be_below and source.randrange(2):
        units = -units
    return written(units, places)


def drawn_problem(source):
    points = source.randrange(1, 1000)
    kind = source.choice(("sum", "product", "quotient", "root"))
    places = source.randrange(10)
    if kind == "sum":
        rows = source.randrange(2, 65)
        most = 10 ** source.randrange(1, 19)
        lines = [str(source.randrange(1 - most, most)) for row in range(rows)]
        return f"{points} sum {rows}\n" + "\n".join(lines) + "\n"
    first = drawn_decimal(source, kind != "root", True)
    if kind == "root":
        return f"{points} root {first} {places}\n"
    second = drawn_decimal(source, True, kind == "product")
    return f"{points} {kind} {first} {second} {places}\n"


def drawn_sheets(source, turns, most):
    """Sheets of up to so many problems, each as the list of its problems."""
    return [[drawn_problem(source) for step in range(source.randrange(most + 1))] for turn in range(turns)]


def told(i, words):
    """The right answer of a problem as answer writes it."""
    answered = answer(i, as_bytes(words))
    assert answered[0] == 0, words
    return bytes(answered[1:]).decode("ascii")


def writings(words):
    """All writings of a number that has at most nine places."""
    whole, point, tail = words.partition(".")
    tail = tail.rstrip("0")
    longer = [whole + "." + tail + "0" * more for more in range(10 - len(tail))]
    if tail:
        return longer
    return [whole] + longer[1:]


def other_numbers(words):
    """Numbers beside that of the words, near it, or written much like it."""
    number = Fraction(words)
    unit = Fraction(1, 10 ** len(words.partition(".")[2]))
    least = Fraction(1, 10 ** 9)
    others = [number + least, number - least, number + unit, number - unit, number + unit / 2, number - unit / 2]
    others += [-number, number * 10, number + 1, number - 1, number + 10 ** 18, Fraction(10 ** 40 - 1)]
    lines = []
    for other in others:
        units = other * 10 ** 9
        if other != number and units.denominator == 1 and abs(other) < 10 ** 40:
            lines.append(written(int(units), 9))
    return lines


def marks_of(words, lines):
    answered = mark(0, 0, 0, as_bytes(words), as_bytes("time 0\n" + "".join(line + "\n" for line in lines)))
    assert answered[0] == 0, (words, lines)
    return answered[6:]


class TheRightAnswer(unittest.TestCase):
    """Promise 1."""

    def test_as_answer_writes_it_it_is_marked_right(self):
        for problems in drawn_sheets(random.Random(41), 60, 12):
            words = "".join(problems)
            lines = [told(i, words) for i in range(len(problems))]
            self.assertEqual(marks_of(words, lines), [1] * len(problems), words)

    def test_so_is_any_other_writing_of_its_number_and_nothing_else(self):
        source = random.Random(43)
        for turn in range(150):
            problem = drawn_problem(source)
            right = told(0, problem)
            same = writings(right)
            self.assertIn(right, same)
            for line in same:
                self.assertEqual(marks_of(problem, [line]), [1], (problem, line))
            for line in other_numbers(right):
                self.assertEqual(marks_of(problem, [line]), [2], (problem, line))

    def test_all_numbers_of_three_places_near_nought(self):
        problems = ("1 sum 2\n3\n-4\n", "1 product 0.5 -0.5 2\n", "1 quotient 2 3 1\n", "1 root 0.5 2\n",
                    "1 product 0 7 3\n", "1 quotient -1 2001 3\n", "1 root 0.000001 3\n")
        lines = [written(units, 3) for units in range(-1100, 1101)]
        for problem in problems:
            right = Fraction(told(0, problem))
            marked = {line: marks_of(problem, [line]) for line in lines}
            self.assertEqual({line: [1 if Fraction(line) == right else 2] for line in lines}, marked, problem)

    def test_it_is_told_exactly(self):
        for problems in drawn_sheets(random.Random(47), 60, 6):
            words = "".join(problems)
            for i, problem in enumerate(split_problems(words)):
                right = told(i, words)
                self.assertTrue(is_right(problem, right), (words, i))
                self.assertEqual(len(right.partition(".")[2]), problem[3], (words, i))


class PointsAndMarks(unittest.TestCase):
    """Promise 2."""

    def test_each_problem_is_right_wrong_or_left_out(self):
        source = random.Random(53)
        for problems in drawn_sheets(source, 250, 8):
            words = "".join(problems)
            lines = [source.choice((told(i, words), told(i, words), "-", "7.25")) for i in range(len(problems))]
            if source.randrange(3) == 0:
                lines = [told(i, words) for i in range(len(problems))]
            lines = lines[:source.choice((3, 20, 20, 20))]
            limit = source.choice((0, source.randrange(1, 500), source.randrange(1, 100000)))
            minus = source.choice((0, source.randrange(500), 9999))
            bonus = source.randrange(10000)
            seconds = source.randrange(600)
            text = f"time {seconds}\n" + "".join(line + "\n" for line in lines)
            answered = mark(limit, minus, bonus, as_bytes(words), as_bytes(text))
            zero, points, right, wrong, left_out, time, *marks = answered
            self.assertEqual((zero, time), (0, seconds))
            self.assertEqual(len(marks), len(problems))
            self.assertEqual([right, wrong, left_out], [marks.count(1), marks.count(2), marks.count(0)])
            self.assertEqual(right + wrong + left_out, len(problems))
            for problem, line, own in zip(split_problems(words), lines + ["-"] * len(problems), marks):
                self.assertEqual(own, 0 if line == "-" else 1 if is_right(problem, line) else 2)
            self.assertEqual(points, expected_points(limit, minus, bonus, seconds, split_problems(words), marks))


class Ranks(unittest.TestCase):
    """Promise 3."""

    def test_better_ones_have_lesser_ranks_like_ones_the_same(self):
        source = random.Random(59)
        for turn in range(200):
            most = source.choice((2, 4, 50, LAST + 1))
            pairs = [(source.randrange(most), source.randrange(most)) for step in range(source.randrange(15))]
            zero, *given = ranks([pair[0] for pair in pairs], [pair[1] for pair in pairs])
            self.assertEqual((zero, len(given)), (0, len(pairs)))
            for own, rank in zip(pairs, given):
                for other, other_rank in zip(pairs, given):
                    is_better = own[0] > other[0] or (own[0] == other[0] and own[1] < other[1])
                    self.assertEqual(rank < other_rank, is_better, (own, other))
                    self.assertEqual(rank == other_rank, own == other, (own, other))

    def test_they_hang_on_what_was_handed_in_alone(self):
        source = random.Random(61)
        words = "".join(drawn_problem(source) for step in range(4))
        right = [told(i, words) for i in range(4)]
        contest = []
        for turn in range(40):
            lines = [source.choice((line, line, "-", "1")) for line in right]
            contest.append(f"time {source.randrange(4) * 60}\n" + "".join(line + "\n" for line in lines))
        rank_by_text = {}
        for turn in range(10):
            source.shuffle(contest)
            marked = [mark(600, 5, 3, as_bytes(words), as_bytes(text)) for text in contest]
            given = ranks([own[1] for own in marked], [own[5] for own in marked])
            for text, rank in zip(contest, given[1:]):
                self.assertEqual(rank_by_text.setdefault(text, rank), rank)


class DrawnSheets(unittest.TestCase):
    """Promise 4."""

    def test_a_drawn_sheet_is_one_and_never_below_nought(self):
        source = random.Random(67)
        for turn in range(200):
            seed, rows, digits = source.randrange(2 ** 64), source.randrange(2, 65), source.randrange(1, 19)
            text = draw(seed, rows, digits)[1:]
            self.assertEqual(sheet(text), [1])
            together = 0
            for row in bytes(text).decode("ascii").split("\n")[1:-1]:
                together += int(row)
                self.assertGreaterEqual(together, 0)
            self.assertEqual(draw(seed, rows, digits), [0] + text)

    def test_drawn_sheets_together_are_a_sheet(self):
        texts = [draw(seed, 2 + seed, 1 + seed)[1:] for seed in range(18)]
        text = [byte for own in texts for byte in own]
        self.assertEqual(sheet(text), [18])
        for i, own in enumerate(texts):
            self.assertEqual(answer(i, text), answer(0, own))


def spoiled(source, words):
    """The words with a sign or two changed, put in or taken out, or broken off."""
    for turn in range(source.randrange(1, 3)):
        place = source.randrange(len(words) + 1)
        sign = source.choice("\n -.0123456789mpqrstx\xff")
        way = source.randrange(4)
        if way == 0:
            words = words[:place] + sign + words[place + 1:]
        elif way == 1:
            words = words[:place] + sign + words[place:]
        elif way == 2:
            words = words[:place] + words[place + 1:]
        else:
            words = words[:place]
    return words


def short_sheet(source):
    decimals = ("0", "1", "0.5", "-0.05", "12.000000001", "-7")
    rest = [
        "sum 2\n1\n-20\n",
        "product " + source.choice(decimals) + " " + source.choice(decimals) + " 3\n",
        "quotient " + source.choice(decimals) + " " + source.choice(decimals[1:]) + " 0\n",
        "root " + source.choice(("0", "2", "0.25")) + " 9\n",
    ]
    return "".join(f"{source.randrange(1, 1000)} {source.choice(rest)}" for step in range(source.randrange(4)))


class Texts(unittest.TestCase):
    """Promise 5."""

    def test_a_text_is_a_sheet_or_has_one_fault(self):
        source = random.Random(71)
        faults = 0
        for turn in range(1500):
            words = short_sheet(source)
            if turn % 5:
                words = spoiled(source, words)
            text = as_bytes(words)
            answered = sheet(text)
            if count_problems(words) is not None:
                self.assertEqual(answered, [count_problems(words)], words)
                continue
            faults += 1
            self.assertEqual(answered, [-5, 12, fault(words)], words)
            self.assertEqual(answer(0, text), answered, words)
            self.assertEqual(mark(0, 0, 0, text, as_bytes("time 0\n")), answered, words)
            self.assertEqual(mark(LAST, 0, 0, text, as_bytes("x")), answered, words)
        self.assertGreater(faults, 500)

    def test_the_fault_is_the_end_of_the_longest_beginning(self):
        source = random.Random(73)
        for turn in range(1500):
            text = as_bytes(spoiled(source, short_sheet(source)))
            answered = sheet(text)
            if answered[0] >= 0:
                continue
            place = answered[2]
            self.assertLessEqual(place, len(text))
            # What stands before the place is good: it is a sheet, or more is wanted.
            before = sheet(text[:place])
            self.assertTrue(before[0] >= 0 or before == [-5, 12, place], text)
            if place < len(text):
                # And with the byte at the place it is not, whatever stands behind.
                for behind in ([], [10], [48], [49, 10], as_bytes(" sum 2\n1\n1\n")):
                    self.assertEqual(sheet(text[:place + 1] + behind), answered, text)

    def test_a_text_is_answers_or_has_one_fault(self):
        source = random.Random(79)
        words = "1 root 4 0\n" * 9
        for turn in range(1500):
            lines = [source.choice(("-", "5", "-0.5", "0.000", "12.50", "9" * 40)) for step in range(source.randrange(5))]
            text = f"time {source.randrange(100000)}\n" + "".join(line + "\n" for line in lines)
            if turn % 5:
                text = spoiled(source, text)
            answered = mark(0, 0, 0, as_bytes(words), as_bytes(text))
            if are_answers(text):
                self.assertEqual(answered[0], 0, text)
            else:
                self.assertEqual(answered, [-5, 13, answers_fault(text)], text)


FOUR = "5 sum 2\n12\n-7\n10 product 1.75 2 2\n20 quotient -1 3 4\n40 root 2 3\n"
LONG_SHEET = "1 root 10 0\n" * 1365
LONG_ANSWERS = "time 10\n" + "-\n" * 1000

# Calls of every kind, with what the document asks of each.
CALLS = (
    (sheet, (as_bytes(""),), [0]),
    (sheet, (as_bytes(FOUR),), [4]),
    (sheet, (as_bytes(FOUR + "x"),), expected_sheet(FOUR + "x")),
    (sheet, ([49] * 16385,), [-6]),
    (answer, (0, as_bytes(FOUR)), [0, 53]),
    (answer, (3, as_bytes(FOUR)), [0] + as_bytes("1.414")),
    (answer, (4, as_bytes(FOUR)), [-4]),
    (answer, (LAST, as_bytes("1")), [-5, 12, 1]),
    (mark, (600, 1, 2, as_bytes(FOUR), as_bytes("time 60\n5\n3.5\n-0.3333\n1.414\n")), [0, 93, 4, 0, 0, 60, 1, 1, 1, 1]),
    (mark, (0, 1, 2, as_bytes(FOUR), as_bytes("time 60\n5\n-\n2\n")), [0, 4, 1, 1, 2, 60, 1, 0, 2, 0]),
    (mark, (LAST, 0, 0, as_bytes(FOUR), as_bytes("time 1\n")), [-1]),
    (mark, (0, 0, 0, as_bytes(FOUR), as_bytes("time 01\n")), [-5, 13, 6]),
    (mark, (0, 0, 0, as_bytes(""), as_bytes("time 1\n-\n")), [-3]),
    (mark, (0, 0, 0, as_bytes(LONG_SHEET), as_bytes(LONG_ANSWERS)), expected_mark(0, 0, 0, LONG_SHEET, LONG_ANSWERS)),
    (ranks, ([3, 1, 3, 3], [5, 0, 4, 5]), expected_ranks([3, 1, 3, 3], [5, 0, 4, 5])),
    (ranks, ([], []), [0]),
    (ranks, ([1], []), [-1]),
    (ranks, ([7] * 16000, [7] * 16000), [0] + [1] * 16000),
    (grade, (5, [9, 5, 1, 5]), expected_grade(5, [9, 5, 1, 5])),
    (grade, (5, [5] * 16000), [16000]),
    (draw, (0, 5, 1), [0] + as_bytes("10 sum 5\n1\n6\n-4\n1\n5\n")),
    (draw, (2 ** 64 - 1, 64, 18), expected_draw(2 ** 64 - 1, 64, 18)),
    (draw, (2 ** 64, 64, 18), [-1]),
)


class EachCallByItself(unittest.TestCase):
    def test_in_any_order_of_calls(self):
        source = random.Random(83)
        handed_in = copy.deepcopy([arguments for call, arguments, expected in CALLS])
        for turn in range(6):
            order = list(range(len(CALLS))) * 2
            source.shuffle(order)
            for k in order:
                call, arguments, expected = CALLS[k]
                answered = call(*arguments)
                self.assertEqual(answered, expected, (call.__name__, k))
                # What a caller does with an answer is of no concern to the next one.
                answered.append(99)
                answered[0] = 77
        self.assertEqual([arguments for call, arguments, expected in CALLS], handed_in)

    def test_with_little_room_for_calls_within_one_another(self):
        before = sys.getrecursionlimit()
        for call, arguments, expected in CALLS:
            sys.setrecursionlimit(len(inspect.stack()) + 60)
            try:
                answered = call(*arguments)
            finally:
                sys.setrecursionlimit(before)
            self.assertEqual(answered, expected, call.__name__)

    def test_it_prints_nothing_and_imports_nothing(self):
        printed = io.StringIO()
        modules = set(sys.modules)
        with contextlib.redirect_stdout(printed), contextlib.redirect_stderr(printed):
            for call, arguments, expected in CALLS:
                call(*arguments)
        self.assertEqual(printed.getvalue(), "")
        self.assertEqual(set(sys.modules), modules)

    def test_whole_numbers_in_a_list(self):
        for call, arguments, expected in CALLS:
            answered = call(*arguments)
            self.assertIs(type(answered), list)
            self.assertEqual({type(number) for number in answered}, {int})


if __name__ == "__main__":
    unittest.main()
