"""Tests of answer: promise 1, as far as it speaks of the right answer, promise 5 for the sheet, and the call 2."""

import random
import unittest
from fractions import Fraction

from abacusmark.sheets import answer
from oracle import as_bytes, is_nearest_root, rounded

EIGHTEEN = "9" * 18
LONGEST = EIGHTEEN + "." + "9" * 9
SMALLEST = "0.000000001"
LAST_I = 9223372036854775807


class AnswerCase(unittest.TestCase):
    def told(self, problem):
        """The words of the right answer of a problem that stands alone."""
        answered = answer(0, as_bytes(problem))
        self.assertEqual(answered[0], 0, problem)
        return bytes(answered[1:]).decode("ascii")

    def answers(self, rest, words):
        self.assertEqual(self.told("1 " + rest + "\n"), words, rest)

    def sums(self, rows, words):
        self.answers("sum " + str(len(rows)) + "\n" + "\n".join([str(row) for row in rows]), words)


class Sums(AnswerCase):
    def test_two_rows(self):
        self.sums([1, 2], "3")
        self.sums([12, -7], "5")
        self.sums([7, -12], "-5")
        self.sums([7, -7], "0")
        self.sums([-7, 7], "0")
        self.sums([0, 0], "0")
        self.sums([99, 1], "100")
        self.sums([-99, -1], "-100")

    def test_64_rows(self):
        self.sums(list(range(1, 65)), "2080")
        self.sums([-row for row in range(1, 65)], "-2080")
        self.sums([5, -5] * 32, "0")
        self.sums([0] * 63 + [9], "9")
        self.sums([9] + [0] * 63, "9")

    def test_rows_of_18_digits(self):
        self.sums([EIGHTEEN] * 2, "1999999999999999998")
        self.sums([EIGHTEEN] * 64, "63999999999999999936")
        self.sums(["-" + EIGHTEEN] * 64, "-63999999999999999936")
        self.sums([EIGHTEEN, "-" + EIGHTEEN], "0")
        self.sums([EIGHTEEN, "-999999999999999998"], "1")

    def test_drawn_sums(self):
        draw = random.Random(1)
        for turn in range(200):
            limit = 10 ** draw.randrange(1, 19)
            rows = [draw.randrange(1 - limit, limit) for row in range(draw.randrange(2, 65))]
            self.sums(rows, str(sum(rows)))


class Products(AnswerCase):
    def test_that_come_out_even(self):
        self.answers("product 3 4 0", "12")
        self.answers("product 1.5 -2.25 3", "-3.375")
        self.answers("product -1.5 -2 0", "3")
        self.answers("product 0 -5.5 0", "0")
        self.answers("product 0 -5.5 2", "0.00")

    def test_rounded(self):
        self.answers("product 1.2 1.2 1", "1.4")
        self.answers("product 1.4 1.2 1", "1.7")
        self.answers("product -1.2 1.2 1", "-1.4")
        self.answers("product 1.4 -1.2 1", "-1.7")
        self.answers("product 0.999 1 2", "1.00")
        self.answers("product 9.99 1 0", "10")

    def test_two_as_near(self):
        self.answers("product 0.5 1 0", "1")
        self.answers("product -0.5 1 0", "-1")
        self.answers("product 1.5 1 0", "2")
        self.answers("product 2.5 1 0", "3")
        self.answers("product -2.5 1 0", "-3")
        self.answers("product 0.5 0.25 2", "0.13")
        self.answers("product 0.5 -0.25 2", "-0.13")
        self.answers("product 0.499999999 1 0", "0")
        self.answers("product 2.499999999 1 0", "2")
        self.answers("product -2.500000001 1 0", "-3")

    def test_no_minus_before_what_rounds_to_nought(self):
        self.answers("product -0.4 1 0", "0")
        self.answers("product 0.499999999 -1 0", "0")
        self.answers("product -0.04 1 1", "0.0")
        self.answers("product -0.000000001 0.1 9", "0.000000000")
        self.answers("product -0.000000001 0.5 9", "-0.000000001")

    def test_the_writing(self):
        self.answers("product 2 3 9", "6.000000000")
        self.answers("product 2.5 4 1", "10.0")
        self.answers("product 0.05 1 2", "0.05")
        self.answers("product -0.05 1 2", "-0.05")
        self.answers("product 0.001 1 9", "0.001000000")

    def test_the_longest(self):
        for places in range(10):
            for first in (LONGEST, "-" + LONGEST, SMALLEST, "-" + SMALLEST, "1"):
                for second in (LONGEST, "-" + LONGEST, SMALLEST, "-" + SMALLEST):
                    number = Fraction(first) * Fraction(second)
                    self.answers(f"product {first} {second} {places}", rounded(number, places))
        self.answers(f"product {LONGEST} {LONGEST} 9", "999999999999999999999999998000000000.000000000")


class Quotients(AnswerCase):
    def test_that_come_out_even(self):
        self.answers("quotient 12 4 0", "3")
        self.answers("quotient -12 4 0", "-3")
        self.answers("quotient 12 -4 0", "-3")
        self.answers("quotient -12 -4 0", "3")
        self.answers("quotient 1 8 3", "0.125")
        self.answers("quotient 1.5 0.03 0", "50")
        self.answers("quotient 0 -3 0", "0")
        self.answers("quotient 0.0 -3 4", "0.0000")

    def test_rounded(self):
        self.answers("quotient 1 3 4", "0.3333")
        self.answers("quotient 2 3 4", "0.6667")
        self.answers("quotient -1 3 0", "0")
        self.answers("quotient -2 3 0", "-1")
        self.answers("quotient 2 -3 4", "-0.6667")
        self.answers("quotient 22 7 9", "3.142857143")
        self.answers("quotient 999 1000 2", "1.00")

    def test_two_as_near(self):
        self.answers("quotient 1 2 0", "1")
        self.answers("quotient -1 2 0", "-1")
        self.answers("quotient 1 -2 0", "-1")
        self.answers("quotient 5 2 0", "3")
        self.answers("quotient -5 2 0", "-3")
        self.answers("quotient 1 8 2", "0.13")
        self.answers("quotient -1 8 2", "-0.13")
        self.answers("quotient 7 0.5 0", "14")
        self.answers("quotient 499999999999999999 999999999999999999 0", "0")
        self.answers("quotient 500000000000000000 999999999999999999 0", "1")

    def test_no_minus_before_what_rounds_to_nought(self):
        self.answers("quotient -1 3 0", "0")
        self.answers("quotient 1 -3 0", "0")
        self.answers("quotient -1 30 1", "0.0")
        self.answers("quotient -0.000000001 999999999999999999 9", "0.000000000")

    def test_the_longest(self):
        for places in range(10):
            for first in (LONGEST, "-" + LONGEST, SMALLEST, "-" + SMALLEST, "1"):
                for second in (LONGEST, "-" + LONGEST, SMALLEST, "-" + SMALLEST, "3"):
                    number = Fraction(first) / Fraction(second)
                    self.answers(f"quotient {first} {second} {places}", rounded(number, places))
        self.answers(f"quotient {LONGEST} {SMALLEST} 9", "9" * 27 + ".000000000")


class Roots(AnswerCase):
    def roots(self, number, places):
        words = self.told(f"1 root {number} {places}\n")
        self.assertTrue(is_nearest_root(words, Fraction(number), places), (number, places, words))

    def test_of_squares(self):
        self.answers("root 1 0", "1")
        self.answers("root 4 0", "2")
        self.answers("root 144 3", "12.000")
        self.answers("root 0.25 1", "0.5")
        self.answers("root 0.0004 2", "0.02")
        self.answers("root 999999998000000001 0", "999999999")
        self.answers("root 999999998000000001 9", "999999999.000000000")

    def test_of_nought(self):
        for places in range(10):
            expected = "0" if places == 0 else "0." + "0" * places
            self.answers(f"root 0 {places}", expected)
            self.answers(f"root 0.000000000 {places}", expected)

    def test_rounded(self):
        self.answers("root 2 0", "1")
        self.answers("root 3 0", "2")
        self.answers("root 2 3", "1.414")
        self.answers("root 2 9", "1.414213562")
        self.answers("root 3 9", "1.732050808")
        self.answers("root 0.5 4", "0.7071")
        self.answers("root 0.1 0", "0")
        self.answers("root 0.000000001 4", "0.0000")
        self.answers("root 0.000000001 5", "0.00003")

    def test_two_as_near(self):
        self.answers("root 0.25 0", "1")
        self.answers("root 0.249999999 0", "0")
        self.answers("root 0.250000001 0", "1")
        self.answers("root 2.25 0", "2")
        self.answers("root 2.249999999 0", "1")
        self.answers("root 6.25 0", "3")
        self.answers("root 0.0025 1", "0.1")
        self.answers("root 0.002499999 1", "0.0")
        self.answers("root 0.00000625 3", "0.003")

    def test_beside_squares(self):
        for root in (1, 2, 3, 9, 10, 999, 31622, 999999998, 999999999):
            for beside in (-1, 0, 1):
                for places in range(10):
                    self.roots(str(root * root + beside), places)

    def test_beside_halves(self):
        for root in (0, 1, 2, 99, 31622, 999999998):
            for beside in (-1, 0, 1):
                hundredths = (2 * root + 1) * (2 * root + 1) * 25 * 10 ** 7 + beside
                self.roots(f"{hundredths // 10 ** 9}.{hundredths % 10 ** 9:09}", 0)

    def test_small_numbers(self):
        for number in range(300):
            for places in (0, 1, 2, 9):
                self.roots(str(number), places)
                self.roots(f"{number // 100}.{number % 100:02}", places)

    def test_the_longest(self):
        for number in (EIGHTEEN, LONGEST, EIGHTEEN + ".000000001", SMALLEST):
            for places in range(10):
                self.roots(number, places)
        self.answers(f"root {LONGEST} 9", "1000000000.000000000")
        self.answers(f"root {EIGHTEEN} 9", "999999999.999999999")


class Drawn(AnswerCase):
    def decimal(self, draw):
        words = str(draw.randrange(10 ** draw.randrange(0, 19)))
        tail = draw.randrange(10)
        if tail:
            words += "." + "".join([draw.choice("0005123456789") for place in range(tail)])
        return words

    def signed(self, draw, words):
        return "-" + words if Fraction(words) != 0 and draw.random() < 0.5 else words

    def test_products_and_quotients(self):
        draw = random.Random(2)
        for turn in range(2000):
            first = self.signed(draw, self.decimal(draw))
            second = self.signed(draw, self.decimal(draw))
            places = draw.randrange(10)
            product = Fraction(first) * Fraction(second)
            self.answers(f"product {first} {second} {places}", rounded(product, places))
            if Fraction(second) != 0:
                quotient = Fraction(first) / Fraction(second)
                self.answers(f"quotient {first} {second} {places}", rounded(quotient, places))

    def test_roots(self):
        draw = random.Random(3)
        for turn in range(2000):
            number = self.decimal(draw)
            places = draw.randrange(10)
            words = self.told(f"1 root {number} {places}\n")
            self.assertTrue(is_nearest_root(words, Fraction(number), places), (number, places, words))


SEVERAL = "5 sum 2\n12\n-7\n10 product 1.5 -2.25 2\n20 quotient 2 3 3\n30 root 2 4\n999 sum 3\n1\n2\n-3\n"
SEVERAL_ANSWERS = ("5", "-3.38", "0.667", "1.4142", "0")


class Indexes(AnswerCase):
    def test_each_problem_of_a_sheet(self):
        for i, words in enumerate(SEVERAL_ANSWERS):
            self.assertEqual(answer(i, as_bytes(SEVERAL)), [0] + as_bytes(words))

    def test_there_is_none(self):
        for i in (5, 6, 64, LAST_I):
            self.assertEqual(answer(i, as_bytes(SEVERAL)), [-4])
        self.assertEqual(answer(1, as_bytes("1 root 4 0\n")), [-4])

    def test_a_sheet_of_no_problem(self):
        for i in (0, 1, LAST_I):
            self.assertEqual(answer(i, []), [-4])

    def test_a_long_sheet(self):
        text = as_bytes("1 root 10 0\n" * 1364 + "1 root 10.123 0\n")
        self.assertEqual(len(text), 16384)
        self.assertEqual(answer(0, text), [0, 51])
        self.assertEqual(answer(1364, text), [0, 51])
        self.assertEqual(answer(1365, text), [-4])


class Refusals(AnswerCase):
    def test_too_long_comes_first(self):
        for text in ([120] * 16385, as_bytes("1 root 10 0\n" * 1366), [120] * 16500):
            for i in (0, LAST_I):
                self.assertEqual(answer(i, text), [-6])

    def test_a_fault_comes_ahead_of_there_being_none(self):
        for i in (0, 1, 5, LAST_I):
            self.assertEqual(answer(i, as_bytes("x")), [-5, 12, 0])
            self.assertEqual(answer(i, [120] * 16384), [-5, 12, 0])
            self.assertEqual(answer(i, as_bytes("1 quotient 1 0 0\n")), [-5, 12, 14])
            self.assertEqual(answer(i, as_bytes("1 root -4 0\n")), [-5, 12, 7])

    def test_a_fault_behind_the_problem_is_told(self):
        for i in range(7):
            self.assertEqual(answer(i, as_bytes(SEVERAL + "x")), [-5, 12, len(SEVERAL)])
            self.assertEqual(answer(i, as_bytes(SEVERAL[:-1])), [-5, 12, len(SEVERAL) - 1])

    def test_what_is_answered_is_a_list_of_whole_numbers(self):
        for text in (as_bytes(SEVERAL), [], as_bytes("x"), [49] * 16385):
            for i in range(6):
                answered = answer(i, text)
                self.assertIs(type(answered), list)
                for number in answered:
                    self.assertIs(type(number), int)

    def test_nothing_is_changed_and_nothing_kept(self):
        for words in ("", SEVERAL, SEVERAL + "x", "1" * 16385):
            for i in range(6):
                text = as_bytes(words)
                first = answer(i, text)
                self.assertEqual(text, as_bytes(words))
                first.append(99)
                answer(1, as_bytes(SEVERAL + SEVERAL))
                self.assertEqual(answer(i, text) + [99], first)

    def test_the_arguments_by_name(self):
        self.assertEqual(answer(i=0, sheet=as_bytes("1 root 4 0\n")), [0, 50])


if __name__ == "__main__":
    unittest.main()
