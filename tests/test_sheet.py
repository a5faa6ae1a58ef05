"""Tests of sheet: promise 5, as far as it speaks of sheets, and the call 1."""

import random
import unittest

from abacusmark.sheets import sheet
from oracle import as_bytes, expected_sheet, fault

SUM = "5 sum 2\n12\n-7\n"
PRODUCT = "10 product 1.5 -2.25 3\n"
QUOTIENT = "120 quotient -7 0.03 0\n"
ROOT = "999 root 2 9\n"
KINDS = (SUM, PRODUCT, QUOTIENT, ROOT)
EIGHTEEN = "9" * 18
NINETEEN = "9" * 19


class SheetCase(unittest.TestCase):
    def holds(self, words, count):
        self.assertEqual(sheet(as_bytes(words)), [count], words)

    def breaks(self, good, rest):
        """The fault stands behind good, whatever good problems stand before."""
        for before in ("", SUM, ROOT + QUOTIENT + PRODUCT):
            words = before + good + rest
            place = len(before + good)
            self.assertEqual(sheet(as_bytes(words)), [-5, 12, place], words)
            self.assertEqual(fault(words), place, words)


class Sheets(SheetCase):
    def test_the_empty_text_has_no_problem(self):
        self.holds("", 0)

    def test_each_kind_alone(self):
        for words in KINDS:
            self.holds(words, 1)

    def test_several_problems(self):
        self.holds(SUM + SUM, 2)
        self.holds(SUM + PRODUCT + QUOTIENT + ROOT, 4)
        self.holds(ROOT + SUM + ROOT + PRODUCT + QUOTIENT + SUM, 6)
        self.holds(ROOT * 1000, 1000)

    def test_what_is_answered_is_a_list_of_whole_numbers(self):
        for text in (as_bytes(""), as_bytes(SUM), as_bytes("x"), [49] * 16385):
            answered = sheet(text)
            self.assertIs(type(answered), list)
            for number in answered:
                self.assertIs(type(number), int)

    def test_the_argument_by_name(self):
        self.assertEqual(sheet(text=as_bytes(SUM)), [1])

    def test_nothing_is_changed_and_nothing_kept(self):
        for words in ("", SUM + ROOT, SUM + "x", "1" * 16385):
            text = as_bytes(words)
            first = sheet(text)
            self.assertEqual(text, as_bytes(words))
            first.append(99)
            sheet(as_bytes("7 product -0"))
            self.assertEqual(sheet(text) + [99], first)


class Bounds(SheetCase):
    def test_points(self):
        for points in ("1", "9", "10", "99", "100", "999"):
            self.holds(points + " root 2 0\n", 1)
        self.breaks("", "0 root 2 0\n")
        self.breaks("", "01 root 2 0\n")
        self.breaks("", "-1 root 2 0\n")
        self.breaks("", " root 2 0\n")
        self.breaks("999", "9 root 2 0\n")
        self.breaks("100", "0 root 2 0\n")

    def test_rows(self):
        for rows in range(2, 65):
            self.holds("1 sum " + str(rows) + "\n" + "1\n" * rows, 1)
        self.breaks("1 sum ", "0\n")
        self.breaks("1 sum ", "02\n1\n1\n")
        self.breaks("1 sum ", "-2\n1\n1\n")
        self.breaks("1 sum ", "\n")
        self.breaks("1 sum 1", "\n1\n")
        self.breaks("1 sum 6", "5\n" + "1\n" * 65)
        self.breaks("1 sum 7", "0\n" + "1\n" * 70)
        self.breaks("1 sum 64", "0\n" + "1\n" * 640)
        self.breaks("1 sum 2", ".0\n")

    def test_as_many_rows_as_told(self):
        self.breaks("1 sum 2\n1\n", "")
        self.breaks("1 sum 64\n" + "1\n" * 63, "")
        self.breaks("1 sum 3\n1\n1\n", "\n")
        # The third number is read as the next problem's points.
        self.breaks("1 sum 2\n1\n1\n1", "\n")

    def test_places(self):
        for places in range(10):
            for words in ("1 product 1 1 ", "1 quotient 1 1 ", "1 root 1 "):
                self.holds(words + str(places) + "\n", 1)
        for words in ("1 product 1 1 ", "1 quotient 1 1 ", "1 root 1 "):
            self.breaks(words, "\n")
            self.breaks(words, "-1\n")
            self.breaks(words + "0", "0\n")
            self.breaks(words + "0", "5\n")
            self.breaks(words + "1", "0\n")
            self.breaks(words + "9", "9\n")
            self.breaks(words + "9", ".0\n")

    def test_whole(self):
        for row in ("0", "1", "-1", "10", EIGHTEEN, "-" + EIGHTEEN, "1" + "0" * 17):
            self.holds("1 sum 2\n" + row + "\n1\n", 1)
            self.holds("1 sum 2\n1\n" + row + "\n", 1)
        for start in ("1 sum 2\n", "1 sum 2\n1\n"):
            self.breaks(start, "\n")
            self.breaks(start, "+1\n")
            self.breaks(start + "-", "\n")
            self.breaks(start + "-", "-1\n")
            self.breaks(start + "-", "0\n")
            self.breaks(start + "-", "01\n")
            self.breaks(start + "0", "0\n")
            self.breaks(start + "0", "1\n")
            self.breaks(start + "1", ".5\n")
            self.breaks(start + EIGHTEEN, "9\n")
            self.breaks(start + "-" + EIGHTEEN, "9\n")
            self.breaks(start + "1" + "0" * 17, "0\n")


# Each place where a decimal stands: what is before it, what is behind, may it be below 0, may it be 0.
DECIMAL_PLACES = (
    ("1 product ", " 1 0\n", True, True),
    ("1 product 1 ", " 0\n", True, True),
    ("1 quotient ", " 1 0\n", True, True),
    ("1 quotient 1 ", " 0\n", True, False),
    ("1 root ", " 0\n", False, True),
)


class Decimals(SheetCase):
    def test_above_nought(self):
        decimals = ("1", "10", "0.1", "0.000000001", "1.0", "1.000000000", EIGHTEEN + "." + "9" * 9)
        for start, end, below, nought in DECIMAL_PLACES:
            for decimal in decimals:
                self.holds(start + decimal + end, 1)

    def test_digits_before_the_point(self):
        for start, end, below, nought in DECIMAL_PLACES:
            self.breaks(start, end)
            self.breaks(start, "+1" + end)
            self.breaks(start, ".5" + end)
            self.breaks(start + "0", "0.5" + end)
            self.breaks(start + "0", "1" + end)
            self.breaks(start + EIGHTEEN, "9" + end)
            self.breaks(start + EIGHTEEN, "9.5" + end)

    def test_tail(self):
        for start, end, below, nought in DECIMAL_PLACES:
            self.breaks(start + "1.", end)
            self.breaks(start + "0.", end)
            self.breaks(start + "1.", "." + end)
            self.breaks(start + "1.", "-5" + end)
            self.breaks(start + "1.5", ".5" + end)
            self.breaks(start + "1.000000000", "0" + end)
            self.breaks(start + "0.123456789", "1" + end)
            self.breaks(start + EIGHTEEN + "." + "9" * 9, "9" + end)

    def test_nought(self):
        for start, end, below, nought in DECIMAL_PLACES:
            for zero in ("0", "0.0", "0.00000000"):
                if nought:
                    self.holds(start + zero + end, 1)
                else:
                    self.breaks(start + zero, end)
            # The ninth nought leaves no way to a number that isn't 0.
            if nought:
                self.holds(start + "0.000000000" + end, 1)
                self.breaks(start + "0.000000000", "1" + end)
            else:
                self.breaks(start + "0.00000000", "0" + end)
                self.breaks(start + "0.00000000", "0")
                self.breaks(start + "0.00000000", "01" + end)

    def test_below_nought(self):
        decimals = ("-1", "-10", "-0.1", "-0.000000001", "-1.000000000", "-" + EIGHTEEN + "." + "9" * 9)
        for start, end, below, nought in DECIMAL_PLACES:
            for decimal in decimals:
                if below:
                    self.holds(start + decimal + end, 1)
                else:
                    self.breaks(start, decimal + end)

    def test_minus_not_before_nought(self):
        for start, end, below, nought in DECIMAL_PLACES:
            if not below:
                self.breaks(start, "-0" + end)
                self.breaks(start, "-")
                continue
            self.breaks(start + "-", end)
            self.breaks(start + "-", "-1" + end)
            self.breaks(start + "-", ".5" + end)
            self.breaks(start + "-0", end)
            self.breaks(start + "-0", "0.5" + end)
            self.breaks(start + "-0.", end)
            self.breaks(start + "-0.0", end)
            self.breaks(start + "-0.00000000", end)
            self.breaks(start + "-0.00000000", "0" + end)
            self.breaks(start + "-0.00000000", "0")
            self.breaks(start + "-" + EIGHTEEN, "9" + end)


class Faults(SheetCase):
    def test_at_the_first_byte(self):
        for byte in list(range(0, 49)) + list(range(58, 256)):
            self.assertEqual(sheet([byte]), [-5, 12, 0])
            self.assertEqual(sheet([byte] + as_bytes(SUM)), [-5, 12, 0])

    def test_in_the_words(self):
        self.breaks("1", "\n")
        self.breaks("1 ", " sum 2\n1\n1\n")
        self.breaks("1 ", "x")
        self.breaks("1 ", "Sum 2\n1\n1\n")
        self.breaks("1 s", "qm 2\n1\n1\n")
        self.breaks("1 pro", "ot 1 1\n")
        self.breaks("1 product", "\n")
        self.breaks("1 quotient 1", "\n")
        self.breaks("1 quotient ", " 1 1\n")
        self.breaks("1 root 1 1", " 1\n")
        self.breaks("1 product 1 1", "\n")

    def test_at_a_problem_s_end(self):
        for words in KINDS:
            self.breaks(words[:-1], "")
            self.breaks(words[:-1], " \n")
            self.breaks(words[:-1], "\r\n")
            self.breaks(words, "\n")
            self.breaks(words, " ")
            self.breaks(words, "\0")

    def test_a_text_that_breaks_off(self):
        for words in KINDS:
            for before in ("", PRODUCT, SUM + QUOTIENT):
                for length in range(1, len(words)):
                    text = as_bytes(before + words[:length])
                    self.assertEqual(sheet(text), [-5, 12, len(text)])

    def test_every_byte_in_every_place(self):
        signs = "\n\r -.+0123456789abcmnopqrstu\xff"
        for words in KINDS + ("64 sum 10\n" + "-10\n" * 10, "7 quotient 0.5 -0.07 1\n"):
            for place in range(len(words)):
                for sign in signs:
                    changed = words[:place] + sign + words[place + 1:]
                    self.assertEqual(sheet(as_bytes(changed)), expected_sheet(changed), changed)

    def test_drawn_texts(self):
        draw = random.Random(5)
        signs = "\n -.0123456789"
        starts = ["", "1 sum ", "1 sum 2\n", "1 sum 2\n1\n"] + [start for start, *rest in DECIMAL_PLACES]
        for turn in range(1500):
            words = draw.choice(starts)
            for step in range(draw.randrange(1, 14)):
                words += draw.choice("0-. \n") if draw.random() < 0.6 else draw.choice(signs)
            self.assertEqual(sheet(as_bytes(words)), expected_sheet(words), words)


class Lengths(SheetCase):
    def test_a_sheet_of_16384_bytes(self):
        # 1,364 problems of 12 bytes and one of 16.
        words = "1 root 10 0\n" * 1364 + "1 root 10.123 0\n"
        self.assertEqual(len(words), 16384)
        self.holds(words, 1365)

    def test_more_than_16384_bytes(self):
        words = "1 root 10 0\n" * 1364 + "1 root 10.1234 0\n"
        self.assertEqual(len(words), 16385)
        self.assertEqual(sheet(as_bytes(words)), [-6])
        self.assertEqual(sheet(as_bytes("1 root 10 0\n" * 1375)), [-6])

    def test_too_long_comes_ahead_of_any_fault(self):
        self.assertEqual(sheet([120] * 16385), [-6])
        self.assertEqual(sheet([120] * 16500), [-6])
        self.assertEqual(sheet([120] * 16384), [-5, 12, 0])

    def test_the_length_bounds_no_fault(self):
        good = "1 root 10 0\n" * 1364
        # More is wanted than a text may hold: the place is the whole length all the same.
        for end in ("1 root 10.12345 ", "1 sum 64\n1\n1\n-10"):
            words = good + end
            self.assertEqual(len(words), 16384)
            self.assertEqual(sheet(as_bytes(words)), [-5, 12, 16384])
        words = good + "1 root 10.12345x"
        self.assertEqual(len(words), 16384)
        self.assertEqual(sheet(as_bytes(words)), [-5, 12, 16383])


if __name__ == "__main__":
    unittest.main()
