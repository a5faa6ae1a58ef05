"""Tests of mark: promise 1, as far as it speaks of what is marked right, promises 2 and 5, and the call 3."""

import random
import unittest
from fractions import Fraction

from abacusmark.sheets import answer, mark
from oracle import answers_fault, are_answers, as_bytes, expected_mark

FIVE = "5 sum 2\n12\n-7\n"
HALVES = "10 product 1.75 2 2\n"
THIRD = "20 quotient -1 3 4\n"
ROOT = "40 root 2 3\n"
NOUGHT = "80 product 0 1 3\n"
FOUR = FIVE + HALVES + THIRD + ROOT
FOUR_RIGHT = ("5", "3.50", "-0.3333", "1.414")
LAST = 9223372036854775807
FORTY = "9" * 40


def handed(seconds, lines):
    return "time " + str(seconds) + "\n" + "".join([line + "\n" for line in lines])


def marked(limit, minus, bonus, sheet, answers):
    return mark(limit, minus, bonus, as_bytes(sheet), as_bytes(answers))


class MarkCase(unittest.TestCase):
    def marks(self, sheet, lines, marks):
        """The marks that the lines have, with the counts that go with them."""
        answered = marked(0, 0, 0, sheet, handed(7, lines))
        counts = [marks.count(1), marks.count(2), marks.count(0)]
        self.assertEqual(answered[:1] + answered[2:], [0] + counts + [7] + marks, (sheet, lines))
        self.assertEqual(answered, expected_mark(0, 0, 0, sheet, handed(7, lines)))

    def gives(self, rules, sheet, seconds, lines, points):
        limit, minus, bonus = rules
        answered = marked(limit, minus, bonus, sheet, handed(seconds, lines))
        self.assertEqual(answered[:2], [0, points], (rules, sheet, seconds, lines))
        self.assertEqual(answered[5], seconds)
        self.assertEqual(answered, expected_mark(limit, minus, bonus, sheet, handed(seconds, lines)))


class Marks(MarkCase):
    def test_right_wrong_and_left_out(self):
        self.marks(FIVE, ["5"], [1])
        self.marks(FIVE, ["4"], [2])
        self.marks(FIVE, ["-5"], [2])
        self.marks(FIVE, ["-"], [0])
        self.marks(FOUR, list(FOUR_RIGHT), [1, 1, 1, 1])
        self.marks(FOUR, ["5", "-", "0", "1.414"], [1, 0, 2, 1])
        self.marks(FOUR, ["-", "-", "-", "-"], [0, 0, 0, 0])
        self.marks(FOUR, ["1", "1", "1", "1"], [2, 2, 2, 2])

    def test_answers_belong_to_problems_in_order(self):
        self.marks(FOUR, ["3.5", "5", "1.414", "-0.3333"], [2, 2, 2, 2])
        self.marks(FOUR, ["-", "5", "-", "1.414"], [0, 2, 0, 1])
        for place in range(4):
            lines = ["-"] * place + [FOUR_RIGHT[place]]
            self.marks(FOUR, lines, [0] * place + [1] + [0] * (3 - place))

    def test_those_behind_the_last_are_left_out(self):
        self.marks(FOUR, [], [0, 0, 0, 0])
        self.marks(FOUR, ["5"], [1, 0, 0, 0])
        self.marks(FOUR, ["6"], [2, 0, 0, 0])
        self.marks(FOUR, ["-"], [0, 0, 0, 0])
        self.marks(FOUR, list(FOUR_RIGHT[:3]), [1, 1, 1, 0])

    def test_a_sheet_of_no_problem(self):
        self.marks("", [], [])
        self.assertEqual(marked(600, 5, 9, "", "time 30\n"), [0, 0, 0, 0, 0, 30])

    def test_other_writings_of_the_number(self):
        for line in ("5", "5.0", "5.00", "5.000000000"):
            self.marks(FIVE, [line], [1])
        for line in ("3.5", "3.50", "3.500", "3.500000000"):
            self.marks(HALVES, [line], [1])
        for line in ("-0.3333", "-0.33330", "-0.333300000"):
            self.marks(THIRD, [line], [1])
        for line in ("0", "0.0", "0.000", "0.0000", "0.000000000"):
            self.marks(NOUGHT, [line], [1])
        self.marks("1 product 20 10 9\n", ["200"], [1])
        self.marks("1 product -2 1 1\n", ["-2"], [1])

    def test_nothing_else_is_right(self):
        for line in ("-5", "50", "0", "5.000000001", "4.999999999", "0.5", "15"):
            self.marks(FIVE, [line], [2])
        for line in ("-3.5", "35", "350", "3", "4", "3.05", "3.51", "3.500000001", "3.499999999"):
            self.marks(HALVES, [line], [2])
        for line in ("0.3333", "-0.333", "-0.33333", "-0.333333333", "-0.3334", "-3333", "-1.3333"):
            self.marks(THIRD, [line], [2])
        for line in ("1.41", "1.4142", "1.414213562", "1.415", "1.413", "-1.414", "2", "1414"):
            self.marks(ROOT, [line], [2])
        for line in ("0.000000001", "-0.000000001", "1", "-1", "0.001"):
            self.marks(NOUGHT, [line], [2])

    def test_rounded_as_told_is_right_and_the_number_itself_is_not(self):
        self.marks("1 quotient 1 8 2\n", ["0.13"], [1])
        self.marks("1 quotient 1 8 2\n", ["0.12"], [2])
        self.marks("1 quotient 1 8 2\n", ["0.125"], [2])
        self.marks("1 quotient -1 8 2\n", ["-0.13"], [1])
        self.marks("1 quotient -1 8 2\n", ["-0.12"], [2])
        self.marks("1 quotient -1 3 0\n", ["0"], [1])
        self.marks("1 quotient -1 3 0\n", ["-0.3"], [2])
        self.marks("1 root 2.25 0\n", ["2"], [1])
        self.marks("1 root 2.25 0\n", ["1.5"], [2])

    def test_long_numbers(self):
        longest = "9" * 18 + "." + "9" * 9
        product = f"1 product {longest} {longest} 9\n"
        right = "999999999999999999999999998000000000"
        self.marks(product, [right], [1])
        self.marks(product, [right + ".000000000"], [1])
        self.marks(product, [right + ".000000001"], [2])
        self.marks(product, ["-" + right], [2])
        for line in (FORTY, "-" + FORTY, FORTY + "." + "9" * 9, "1" + "0" * 39):
            self.marks(FIVE, [line], [2])
        rows = "1 sum 64\n" + ("9" * 18 + "\n") * 64
        self.marks(rows, ["63999999999999999936"], [1])
        self.marks(rows, ["63999999999999999937"], [2])

    def test_a_sheet_of_many_problems(self):
        sheet = "1 root 0 0\n" * 1489
        self.assertLessEqual(len(sheet), 16384)
        self.marks(sheet, ["0"] * 1489, [1] * 1489)
        self.marks(sheet, ["-"] * 700 + ["0", "1"], [0] * 700 + [1, 2] + [0] * 787)


class RightAnswersWritten(MarkCase):
    def problems(self, draw):
        """A problem of each kind, of drawn numbers."""
        decimals = []
        for turn in range(5):
            words = str(draw.randrange(1, 10 ** draw.randrange(1, 19)))
            tail = draw.randrange(10)
            if tail:
                words += "." + "".join([draw.choice("0123456789") for place in range(tail)])
            decimals.append(words)
        sign = draw.choice(("", "-"))
        rows = [str(draw.randrange(-1000, 1000)) for row in range(draw.randrange(2, 65))]
        return (
            f"3 sum {len(rows)}\n" + "\n".join(rows) + "\n",
            f"3 product {sign}{decimals[0]} {decimals[1]} {draw.randrange(10)}\n",
            f"3 quotient {decimals[2]} {sign}{decimals[3]} {draw.randrange(10)}\n",
            f"3 root {decimals[4]} {draw.randrange(10)}\n",
        )

    def writings(self, words):
        """The writings of the words' number, the shortest to the longest."""
        before, point, tail = words.partition(".")
        tail = tail.rstrip("0")
        found = [before] if tail == "" else []
        for length in range(max(len(tail), 1), 10):
            found.append(before + "." + tail.ljust(length, "0"))
        return found

    def beside(self, words):
        """The writings of numbers that are near to the words' number."""
        units = int(Fraction(words) * 10 ** 9)
        for far in (-10 ** 9, -10 ** 8, -10, -1, 1, 10, 10 ** 5, 10 ** 9):
            size = abs(units + far)
            sign = "-" if units + far < 0 else ""
            yield f"{sign}{size // 10 ** 9}.{size % 10 ** 9:09}"

    def test_what_answer_tells_is_marked_right_however_written_and_nothing_beside(self):
        draw = random.Random(7)
        for turn in range(60):
            for problem in self.problems(draw):
                words = bytes(answer(0, as_bytes(problem))[1:]).decode("ascii")
                self.marks(problem, [words], [1])
                for writing in self.writings(words):
                    self.assertEqual(marked(0, 0, 0, problem, handed(1, [writing]))[6:], [1], (problem, writing))
                for writing in self.beside(words):
                    if are_answers(handed(1, [writing])):
                        self.assertEqual(marked(0, 0, 0, problem, handed(1, [writing]))[6:], [2], (problem, writing))


class Points(MarkCase):
    def test_of_the_right_ones_together(self):
        self.gives((0, 0, 0), FOUR, 10, list(FOUR_RIGHT), 75)
        self.gives((0, 0, 0), FOUR, 10, ["5", "-", "-", "1.414"], 45)
        self.gives((0, 0, 0), FOUR, 10, ["5", "1", "-0.3333"], 25)
        self.gives((0, 0, 0), FOUR, 10, [], 0)
        self.gives((0, 0, 0), "1 root 4 0\n999 root 9 0\n", 10, ["2", "3"], 1000)

    def test_minus_for_each_wrong_one(self):
        self.gives((0, 3, 0), FOUR, 10, ["6", "3.5", "-0.3333", "1.414"], 67)
        self.gives((0, 3, 0), FOUR, 10, ["6", "4", "-0.3333", "1.414"], 54)
        self.gives((0, 3, 0), FOUR, 10, ["6", "4", "1", "1.414"], 31)

    def test_no_minus_for_those_left_out(self):
        self.gives((0, 3, 0), FOUR, 10, ["5", "-", "-", "-"], 5)
        self.gives((0, 3, 0), FOUR, 10, ["5"], 5)
        self.gives((0, 3, 0), FOUR, 10, ["-", "4", "-0.3333"], 17)

    def test_not_below_nought(self):
        self.gives((0, 4, 0), FOUR, 10, ["5", "4"], 1)
        self.gives((0, 5, 0), FOUR, 10, ["5", "4"], 0)
        self.gives((0, 6, 0), FOUR, 10, ["5", "4"], 0)
        self.gives((0, 9999, 0), FOUR, 10, ["1", "1", "1", "1"], 0)
        self.gives((600, 9999, 9999), FOUR, 10, ["5", "3.5", "-0.3333", "1"], 0)

    def test_bonus_for_each_whole_minute(self):
        for seconds, minutes in ((0, 10), (1, 9), (59, 9), (60, 9), (61, 8), (539, 1), (540, 1), (541, 0), (599, 0)):
            self.gives((600, 0, 7), FOUR, seconds, list(FOUR_RIGHT), 75 + 7 * minutes)
            self.gives((600, 9, 7), FOUR, seconds, list(FOUR_RIGHT), 75 + 7 * minutes)
            self.gives((600, 0, 0), FOUR, seconds, list(FOUR_RIGHT), 75)
        self.gives((59, 0, 7), FIVE, 0, ["5"], 5)
        self.gives((60, 0, 7), FIVE, 0, ["5"], 12)
        self.gives((1, 0, 7), FIVE, 0, ["5"], 5)

    def test_no_bonus_unless_all_are_right(self):
        for lines in (["5", "3.5", "-0.3333", "1.4"], ["5", "3.5", "-0.3333", "-"], ["5", "3.5", "-0.3333"]):
            self.gives((600, 0, 7), FOUR, 0, lines, 35)
        self.gives((600, 0, 7), FOUR, 0, ["-", "3.5", "-0.3333", "1.414"], 70)
        self.gives((600, 0, 7), FOUR, 0, [], 0)
        self.gives((600, 0, 7), FIVE, 0, ["6"], 0)

    def test_no_bonus_where_there_is_no_problem(self):
        self.gives((600, 0, 7), "", 0, [], 0)
        self.gives((99999, 9999, 9999), "", 0, [], 0)

    def test_the_time_and_the_limit(self):
        for lines, points in ((list(FOUR_RIGHT), 75), (["5", "1"], 3)):
            self.gives((600, 2, 7), FOUR, 600, lines, points)
            self.gives((600, 2, 7), FOUR, 601, lines, 0)
            self.gives((600, 2, 7), FOUR, 99999, lines, 0)
            self.gives((1, 2, 7), FOUR, 1, lines, points)
            self.gives((1, 2, 7), FOUR, 2, lines, 0)
            self.gives((99999, 2, 7), FOUR, 99999, lines, points)
            self.gives((99998, 2, 7), FOUR, 99999, lines, 0)

    def test_above_the_limit_the_marks_are_told_all_the_same(self):
        answered = marked(600, 2, 7, FOUR, handed(601, ["5", "1", "-", "1.414"]))
        self.assertEqual(answered, [0, 0, 2, 1, 1, 601, 1, 2, 0, 1])

    def test_limit_nought_is_no_limit(self):
        for seconds in (0, 1, 60, 99999):
            self.gives((0, 0, 7), FOUR, seconds, list(FOUR_RIGHT), 75)
            self.gives((0, 2, 7), FOUR, seconds, ["5", "1"], 3)

    def test_drawn_contests(self):
        draw = random.Random(11)
        problems = ((FIVE, "5"), (HALVES, "3.5"), (THIRD, "-0.3333"), (ROOT, "1.414"), (NOUGHT, "0"))
        for turn in range(1500):
            chosen = [draw.choice(problems) for step in range(draw.randrange(6))]
            most = draw.choice((0, 0, 1, 3))
            lines = [right if draw.randrange(4) >= most else draw.choice(("-", "1", "0.5")) for text, right in chosen]
            sheet = "".join([text for text, right in chosen])
            lines = lines[:draw.choice((6, 6, 4, 2))] + ["-"] * draw.choice((0, 0, 0, 0, 1))
            limit = draw.choice((0, draw.randrange(300), draw.randrange(99999)))
            seconds = draw.choice((limit, max(limit - 60, 0), draw.randrange(300)))
            minus = draw.choice((0, draw.randrange(30), 9999))
            bonus = draw.choice((0, draw.randrange(30), 9999))
            answers = handed(seconds, lines)
            expected = expected_mark(limit, minus, bonus, sheet, answers)
            self.assertEqual(marked(limit, minus, bonus, sheet, answers), expected, (sheet, answers, limit))


class Rules(MarkCase):
    def test_at_their_bounds(self):
        self.gives((0, 0, 0), FIVE, 0, ["5"], 5)
        self.gives((99999, 0, 0), FIVE, 0, ["5"], 5)
        self.gives((99999, 0, 1), FIVE, 0, ["5"], 5 + 1666)
        self.gives((99999, 9999, 9999), FIVE, 0, ["5"], 5 + 1666 * 9999)
        self.gives((0, 9999, 0), FIVE, 0, ["6"], 0)
        self.gives((0, 998, 0), "999 root 4 0\n1 root 9 0\n", 0, ["2", "2"], 1)

    def test_beyond_their_bounds(self):
        for beyond in (100000, 100001, 999999, LAST):
            self.assertEqual(marked(beyond, 0, 0, FIVE, "time 0\n5\n"), [-1])
        for beyond in (10000, 10001, 99999, LAST):
            self.assertEqual(marked(0, beyond, 0, FIVE, "time 0\n5\n"), [-1])
            self.assertEqual(marked(0, 0, beyond, FIVE, "time 0\n5\n"), [-1])
        self.assertEqual(marked(LAST, LAST, LAST, FIVE, "time 0\n5\n"), [-1])
        self.assertEqual(marked(0, 10000, 0, "", "time 0\n"), [-1])
        for rules in ((-1, 0, 0), (0, -1, 0), (0, 0, -1)):
            self.assertEqual(marked(*rules, FIVE, "time 0\n5\n"), [-1])


NUMBER_STARTS = ("time 0\n", "time 99999\n-\n", "time 7\n3.5\n-2\n")


class AnswersCase(unittest.TestCase):
    sheet = FIVE * 9

    def holds(self, words):
        self.assertEqual(marked(0, 0, 0, self.sheet, words)[0], 0, words)
        self.assertTrue(are_answers(words), words)

    def breaks(self, good, rest):
        """The fault stands behind good."""
        words = good + rest
        self.assertEqual(marked(0, 0, 0, self.sheet, words), [-5, 13, len(good)], words)
        self.assertEqual(answers_fault(words), len(good), words)
        self.assertFalse(are_answers(words), words)


class AnswersFaults(AnswersCase):
    def test_the_empty_text(self):
        self.breaks("", "")

    def test_within_the_word(self):
        word = "time "
        for length in range(len(word)):
            self.breaks(word[:length], "")
            for sign in ("\n", "-", "0", "T", "x", "\0", "\xff", "tt", "  "):
                if sign[0] != word[length]:
                    self.breaks(word[:length], sign + word[length:] + "1\n")
        self.breaks("time ", "")
        self.breaks("time ", " 1\n")
        self.breaks("", "1\n")
        self.breaks("", "5\n")

    def test_seconds(self):
        for seconds in ("0", "1", "9", "10", "59", "9999", "10000", "99999"):
            self.holds("time " + seconds + "\n")
            self.breaks("time " + seconds, "")
            self.breaks("time " + seconds, ".0\n")
            self.breaks("time " + seconds, " \n")
            self.breaks("time " + seconds, "\r\n")
        self.breaks("time ", "\n")
        self.breaks("time ", "-1\n")
        self.breaks("time ", "-\n")
        self.breaks("time ", "+1\n")
        self.breaks("time 0", "0\n")
        self.breaks("time 0", "1\n")
        self.breaks("time 10000", "0\n")
        self.breaks("time 99999", "9\n")

    def test_a_line_feed_that_lacks(self):
        for start in NUMBER_STARTS:
            for line in ("-", "5", "0", "-5", "3.5", "-0.5", FORTY):
                self.breaks(start + line, "")
                self.breaks(start + line, " ")
                self.breaks(start + line, "\r\n")
                self.breaks(start + line, "-\n")

    def test_no_empty_answer(self):
        for start in NUMBER_STARTS:
            self.holds(start)
            self.breaks(start, "\n")
            self.breaks(start, " \n")
            self.breaks(start, "\0")
            self.breaks(start, "+5\n")
            self.breaks(start, ".5\n")
            self.breaks(start, "x\n")
            self.breaks(start, "time 1\n")

    def test_left_out_against_minus(self):
        for start in NUMBER_STARTS:
            self.holds(start + "-\n")
            self.holds(start + "-\n-\n-5\n-\n")
            self.holds(start + "-5\n")
            self.breaks(start + "-", "")
            self.breaks(start + "-", "-\n")
            self.breaks(start + "-", "-5\n")
            self.breaks(start + "-", " \n")
            self.breaks(start + "-", ".5\n")

    def test_digits_before_the_point(self):
        for start in NUMBER_STARTS:
            for sign in ("", "-"):
                for length in (1, 18, 19, 39, 40):
                    self.holds(start + sign + "9" * length + "\n")
                    self.holds(start + sign + "1" + "0" * (length - 1) + ".5\n")
                self.breaks(start + sign + FORTY, "9\n")
                self.breaks(start + sign + "1" + "0" * 39, "0\n")
                self.breaks(start + sign + "1" + "0" * 39, "0.5\n")
                self.breaks(start + sign + "0", "0\n")
                self.breaks(start + sign + "0", "5\n")
                self.breaks(start + sign + "0", "0.5\n")

    def test_tail(self):
        for start in NUMBER_STARTS:
            for before in ("0", "1", "-1", FORTY, "-" + FORTY):
                self.breaks(start + before + ".", "")
                self.breaks(start + before + ".", "\n")
                self.breaks(start + before + ".", ".5\n")
                self.breaks(start + before + ".", "-5\n")
                for length in range(1, 10):
                    for digit in "059":
                        self.holds(start + before + "." + digit * length + "\n")
                    self.breaks(start + before + "." + "7" * length, ".\n")
                self.breaks(start + before + ".123456789", "0\n")
                self.breaks(start + before + ".000000001", "5\n")
            self.holds(start + "0.000000000\n")
            self.breaks(start + "0.000000000", "0\n")
            self.breaks(start + "0.000000000", "1\n")

    def test_minus_not_before_nought(self):
        for start in NUMBER_STARTS:
            self.breaks(start + "-0", "\n")
            self.breaks(start + "-0", "")
            self.breaks(start + "-0.", "\n")
            self.breaks(start + "-0.", "")
            for length in range(1, 9):
                self.breaks(start + "-0." + "0" * length, "\n")
                self.breaks(start + "-0." + "0" * length, "")
                self.holds(start + "-0." + "0" * length + "1\n")
            # The ninth nought leaves no way to a number that isn't 0.
            self.breaks(start + "-0.00000000", "0\n")
            self.breaks(start + "-0.00000000", "0")
            self.breaks(start + "-0.00000000", "01\n")
            self.breaks(start + "-0.000000001", "0\n")

    def test_a_text_that_breaks_off(self):
        words = "time 12340\n5\n-\n-3.50\n0.000000001\n-0.07\n"
        for length in range(len(words)):
            if not are_answers(words[:length]):
                self.breaks(words[:length], "")

    def test_every_byte_in_every_place(self):
        signs = "\n\r -.+0123459eimt\xff"
        for words in ("time 12340\n5\n-\n-3.50\n0\n-0.00000007\n", "time 0\n-\n" + FORTY + "\n"):
            for place in range(len(words)):
                for sign in signs:
                    changed = words[:place] + sign + words[place + 1:]
                    expected = expected_mark(0, 0, 0, self.sheet, changed)
                    self.assertEqual(marked(0, 0, 0, self.sheet, changed), expected, changed)

    def test_drawn_texts(self):
        draw = random.Random(13)
        signs = "\n -.0123456789"
        starts = ("time ", "time 9", "time 0\n", "time 1\n-", "time 1\n-0", "time 1\n-\n0.", "time 99\n-0.000000")
        for turn in range(3000):
            words = draw.choice(starts)
            for step in range(draw.randrange(1, 14)):
                words += draw.choice("0-.\n") if draw.random() < 0.6 else draw.choice(signs)
            expected = expected_mark(0, 0, 0, self.sheet, words)
            self.assertEqual(marked(0, 0, 0, self.sheet, words), expected, words)


class Order(unittest.TestCase):
    long_sheet = "1 root 10 0\n" * 1366
    long_answers = "time 0\n" + "-\n" * 8189

    def test_the_lengths(self):
        self.assertEqual(len(self.long_answers), 16385)
        self.assertGreater(len(self.long_sheet), 16384)

    def test_too_long_comes_first(self):
        for limit in (0, LAST):
            for sheet in (self.long_sheet, "x" * 16385, "x" * 16500):
                for answers in ("time 0\n", "x", "", self.long_answers, "x" * 16384, "x" * 16500):
                    self.assertEqual(marked(limit, 0, 0, sheet, answers), [-6])
            for sheet in (FIVE, "", "x", "x" * 16384, self.long_sheet):
                for answers in (self.long_answers, "x" * 16385, "x" * 16500):
                    self.assertEqual(marked(limit, 0, 0, sheet, answers), [-6])

    def test_then_the_sheet_s_fault(self):
        for limit in (0, LAST):
            for answers in ("time 0\n5\n", "time 0\n5\n5\n5\n", "x", "", "time 0", "x" * 16384):
                self.assertEqual(marked(limit, 0, 0, "x", answers), [-5, 12, 0])
                self.assertEqual(marked(limit, 0, 0, FIVE + "1 quotient 1 0 0\n", answers), [-5, 12, len(FIVE) + 14])
                self.assertEqual(marked(limit, 0, 0, FIVE[:-1], answers), [-5, 12, len(FIVE) - 1])
                self.assertEqual(marked(limit, 0, 0, "x" * 16384, answers), [-5, 12, 0])

    def test_then_the_answers_fault(self):
        for limit in (0, LAST):
            for sheet in (FIVE, "", FOUR):
                self.assertEqual(marked(limit, 0, 0, sheet, ""), [-5, 13, 0])
                self.assertEqual(marked(limit, 0, 0, sheet, "time 0\n5\n5\n5\n5\n5\n-0\n"), [-5, 13, 19])
                self.assertEqual(marked(limit, 0, 0, sheet, "x" * 16384), [-5, 13, 0])
                self.assertEqual(marked(limit, 0, 0, sheet, FIVE), [-5, 13, 0])

    def test_then_the_rules(self):
        for answers in ("time 0\n", "time 0\n5\n", "time 0\n5\n5\n"):
            self.assertEqual(marked(100000, 0, 0, FIVE, answers), [-1])
            self.assertEqual(marked(0, 10000, 0, FIVE, answers), [-1])
            self.assertEqual(marked(0, 0, 10000, FIVE, answers), [-1])

    def test_then_more_answers_than_problems(self):
        self.assertEqual(marked(99999, 9999, 9999, FIVE, "time 0\n5\n5\n"), [-3])
        self.assertEqual(marked(0, 0, 0, FIVE, "time 0\n5\n-\n"), [-3])
        self.assertEqual(marked(0, 0, 0, FIVE, "time 0\n-\n-\n"), [-3])
        self.assertEqual(marked(0, 0, 0, "", "time 0\n5\n"), [-3])
        self.assertEqual(marked(0, 0, 0, "", "time 0\n-\n"), [-3])
        self.assertEqual(marked(0, 0, 0, FOUR, handed(0, FOUR_RIGHT + ("1",))), [-3])
        # 601 is above the limit, but that is no refusal.
        self.assertEqual(marked(600, 0, 0, FIVE, "time 601\n5\n5\n"), [-3])

    def test_texts_of_16384_bytes(self):
        sheet = "1 root 10 0\n" * 1364 + "1 root 10.123 0\n"
        answers = "time 10\n" + "-\n" * 8188
        self.assertEqual((len(sheet), len(answers)), (16384, 16384))
        self.assertEqual(marked(0, 0, 0, FIVE, answers), [-3])
        self.assertEqual(marked(0, 0, 0, sheet, answers), [-3])
        self.assertEqual(marked(0, 0, 0, sheet, "time 5\n"), [0, 0, 0, 0, 1365, 5] + [0] * 1365)
        long = "time 5\n" + (FORTY + "." + "9" * 9 + "\n") * 321
        long += "9" * (16384 - len(long))
        self.assertEqual(marked(0, 0, 0, sheet, long), [-5, 13, 16384])


class Kept(unittest.TestCase):
    cases = (
        (600, 1, 2, FOUR, handed(60, FOUR_RIGHT)),
        (600, 1, 2, FOUR, handed(60, ["5", "-", "7"])),
        (0, 0, 0, "", "time 0\n"),
        (0, 0, 0, "x", "time 0\n"),
        (0, 0, 0, FIVE, "time 00\n"),
        (LAST, 0, 0, FIVE, "time 0\n"),
        (0, 0, 0, FIVE, "time 0\n1\n1\n"),
        (0, 0, 0, FIVE, "1" * 16385),
    )

    def test_nothing_is_changed_and_nothing_kept(self):
        for limit, minus, bonus, sheet, answers in self.cases:
            sheet_list = as_bytes(sheet)
            answers_list = as_bytes(answers)
            first = mark(limit, minus, bonus, sheet_list, answers_list)
            self.assertEqual(sheet_list, as_bytes(sheet))
            self.assertEqual(answers_list, as_bytes(answers))
            first.append(99)
            marked(0, 3, 0, FOUR + FOUR, handed(9, ["-", "1"]))
            self.assertEqual(mark(limit, minus, bonus, sheet_list, answers_list) + [99], first)

    def test_what_is_answered_is_a_list_of_whole_numbers(self):
        for limit, minus, bonus, sheet, answers in self.cases:
            answered = marked(limit, minus, bonus, sheet, answers)
            self.assertIs(type(answered), list)
            for number in answered:
                self.assertIs(type(number), int)

    def test_the_arguments_by_name(self):
        answered = mark(limit=120, minus=1, bonus=2, sheet=as_bytes(FIVE), answers=as_bytes("time 0\n5\n"))
        self.assertEqual(answered, [0, 9, 1, 0, 0, 0, 1])


if __name__ == "__main__":
    unittest.main()
