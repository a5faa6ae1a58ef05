"""Tests of draw: promise 4 and the call 6."""

import random
import unittest

from abacusmark.sheets import answer, draw, mark, sheet
from oracle import as_bytes, drawn_facts, expected_draw

LAST = 9223372036854775807
FACTOR = 6364136223846793005
STEP = 1442695040888963407
SEEDS = (0, 1, 2 ** 63 - 1, 2 ** 63, 2 ** 64 - 1)
SEEDS_BEYOND = (2 ** 64, 2 ** 64 + 1, 2 ** 65 - 1)
ROWS = (2, 3, 63, 64)
ROWS_BEYOND = (0, 1, 65, 66, LAST)
DIGITS = (1, 2, 17, 18)
DIGITS_BEYOND = (0, 19, 20, LAST)


def seed_before(x, steps):
    """The seed that becomes x in so many steps."""
    undo = pow(FACTOR, -1, 2 ** 64)
    for step in range(steps):
        x = (x - STEP) * undo % 2 ** 64
    return x


class DrawCase(unittest.TestCase):
    def drawn(self, seed, rows, digits):
        """The words of a drawn sheet."""
        answered = draw(seed, rows, digits)
        self.assertEqual(answered[0], 0, (seed, rows, digits))
        return bytes(answered[1:]).decode("ascii")

    def drawn_rows(self, seed, rows, digits):
        first, *lines, behind = self.drawn(seed, rows, digits).split("\n")
        self.assertEqual((first, len(lines), behind), (f"10 sum {rows}", rows, ""), (seed, rows, digits))
        return lines


class WorkedOutByHand(DrawCase):
    """Beside each row: x, the number's; then x, by which it is added or taken away."""

    def test_seed_0(self):
        rows = (
            "1\n"   # x 1442695040888963407, times 9 below 2^64: 1 and 0 more; x 1876011003808476466, below 2^63
            "6\n"   # x 11166244414315200793, times 9 is 5 times 2^64 and more; x 7401132627792533940
            "-4\n"  # x 7076646890315895283; x 10346034117385188870, not below 2^63; 7 so far
            "1\n"   # x 1459328389850446429; x 6566661184467396264
            "5\n"   # x 8905969151499887831; x 8237903092696572954
        )
        self.assertEqual(self.drawn(0, 5, 1), "10 sum 5\n" + rows)
        self.assertEqual(self.drawn(0, 3, 1), "10 sum 3\n1\n6\n-4\n")
        self.assertEqual(draw(0, 2, 1), [0, 49, 48, 32, 115, 117, 109, 32, 50, 10, 49, 10, 54, 10])

    def test_seed_1(self):
        rows = (
            "480\n"   # x 7806831264735756412; x 9396908728118811419, not below 2^63, but 0 so far
            "683\n"   # x 11960119808228829710; x 7062582979898595269
            "-815\n"  # x 14673421054488193520; x 9232803539723513983, not below 2^63; 1163 so far
            "598\n"   # x 10218303843513747618; x 1206773305466921929
            "855\n"   # x 15490212636682683044; x 3660572683296592931
            "-771\n"  # x 13756953107850766454; x 9882984339513518093, not below 2^63; 1801 so far
        )
        self.assertEqual(self.drawn(1, 6, 3), "10 sum 6\n" + rows)

    def test_seeds_by_2_to_the_63(self):
        rows = (
            "30\n"   # x 4301930853896946210; x 3578485316352917321
            "-15\n"  # x 1148996983546796068; x 16963054312541248419, not below 2^63; 30 so far
            "52\n"   # x 8703244762998372854; x 2235892658192087949
            "19\n"   # x 1923724973041921048; x 2703177026613094791
        )
        self.assertEqual(self.drawn(2 ** 63 - 1, 4, 2), "10 sum 4\n" + rows)
        rows = (
            "62\n"   # x 10666067077743739215; x 11099383040663252274, not below 2^63, but 0 so far
            "-19\n"  # x 1942872377460424985; x 16624504664647309748, not below 2^63; 62 so far
            "89\n"   # x 16300018927170671091; x 1122662080530413062
            "-62\n"  # x 10682700426705222237; x 15790033221322172072, not below 2^63; 132 so far
        )
        self.assertEqual(self.drawn(2 ** 63, 4, 2), "10 sum 4\n" + rows)

    def test_the_last_seed(self):
        rows = (
            "759887324995487061\n"   # x 13525302890751722018; x 12801857353207693129, not below 2^63, but 0 so far
            "606058526158332746\n"   # x 10372369020401571876; x 7739682275686472611
            "-974623459587216625\n"  # x 17926616799853148662; x 11459264695046863757; 1365945851153819807 so far
        )
        self.assertEqual(self.drawn(2 ** 64 - 1, 3, 18), "10 sum 3\n" + rows)


class TheNumbers(DrawCase):
    def test_the_least_and_the_greatest(self):
        for digits in range(1, 19):
            self.assertEqual(self.drawn_rows(seed_before(0, 1), 2, digits)[0], "1" + "0" * (digits - 1))
            self.assertEqual(self.drawn_rows(seed_before(2 ** 64 - 1, 1), 2, digits)[0], "9" * digits)

    def test_rounded_down(self):
        # The least x that gives a number, and the one before it, which gives the number before.
        for digits in range(1, 19):
            least = 10 ** (digits - 1)
            for more in (1, 9 * least // 2, 9 * least - 1):
                first = -(-more * 2 ** 64 // (9 * least))
                for x, number in ((first, least + more), (first - 1, least + more - 1)):
                    self.assertEqual(self.drawn_rows(seed_before(x, 1), 2, digits)[0], str(number))

    def test_so_many_digits(self):
        source = random.Random(23)
        for seed in SEEDS + tuple(source.randrange(2 ** 64) for step in range(20)):
            for digits in range(1, 19):
                for row in self.drawn_rows(seed, 64, digits):
                    self.assertRegex(row, r"\A-?[1-9][0-9]*\Z")
                    self.assertEqual(len(row.lstrip("-")), digits)


class TakenAway(DrawCase):
    def test_at_2_to_the_63(self):
        # 3 so far, the number is 1, and x is 2^63.
        self.assertEqual(self.drawn_rows(seed_before(2 ** 63, 4), 2, 1), ["3", "-1"])
        # 8 so far, the number is 4, but x is below 2^63.
        self.assertEqual(self.drawn_rows(seed_before(2 ** 63 - 1, 4), 2, 1), ["8", "4"])
        # 8 so far, the number is 6, and x is 0.
        self.assertEqual(self.drawn_rows(seed_before(0, 4), 2, 1), ["8", "6"])
        # 9 so far, the number is 8, and x is the last there is.
        self.assertEqual(self.drawn_rows(seed_before(2 ** 64 - 1, 12), 6, 1), ["2", "5", "2", "3", "-3", "-8"])

    def test_against_the_rows_so_far(self):
        # In all of these the second row's x isn't below 2^63.
        for seed, first in ((25, "7"), (35, "2"), (78, "9"), (81, "1"), (88, "4")):
            self.assertEqual(self.drawn_rows(seed, 2, 1), [first, "-" + first])
        for seed, first, second in ((28, "7", "8"), (38, "2", "3"), (41, "3", "4"), (48, "6", "7")):
            self.assertEqual(self.drawn_rows(seed, 2, 1), [first, second])
        # In these it is below.
        for seed, first in ((2, "7"), (5, "8"), (12, "2"), (58, "1")):
            self.assertEqual(self.drawn_rows(seed, 2, 1), [first, first])

    def test_the_rows_so_far_are_all_of_them_with_their_signs(self):
        # 6, 1, 3, 0: the fifth row's x is 2^63, but its number is 1.
        self.assertEqual(self.drawn_rows(seed_before(2 ** 63, 10), 5, 1), ["6", "-5", "2", "-3", "1"])

    def test_the_first_row_is_never_taken_away(self):
        for seed in range(300):
            for digits in DIGITS:
                self.assertFalse(self.drawn_rows(seed, 2, digits)[0].startswith("-"))

    def test_only_where_both_hold_and_never_below_nought(self):
        source = random.Random(29)
        seen = {}
        for turn in range(400):
            seed = source.choice(SEEDS + (source.randrange(2 ** 64), source.randrange(1000)))
            digits = source.randrange(1, 19)
            rows = source.randrange(2, 65)
            lines = self.drawn_rows(seed, rows, digits)
            together = 0
            for line, (number, is_high) in zip(lines, drawn_facts(seed, rows, digits)):
                is_enough = together >= number
                self.assertEqual(abs(int(line)), number)
                self.assertEqual(line.startswith("-"), is_high and is_enough)
                seen[is_high, is_enough] = True
                together += int(line)
                self.assertGreaterEqual(together, 0)
        self.assertEqual(len(seen), 4)


class DrawnSheets(DrawCase):
    def is_one(self, seed, rows, digits):
        answered = draw(seed, rows, digits)
        self.assertEqual(answered, expected_draw(seed, rows, digits), (seed, rows, digits))
        text = answered[1:]
        self.assertEqual(sheet(text), [1])
        together = sum(int(row) for row in self.drawn_rows(seed, rows, digits))
        self.assertEqual(answer(0, text), [0] + as_bytes(str(together)))
        self.assertEqual(answer(1, text), [-4])
        right = as_bytes(f"time 7\n{together}\n")
        self.assertEqual(mark(0, 3, 0, text, right), [0, 10, 1, 0, 0, 7, 1])
        wrong = as_bytes(f"time 7\n{together + 1}\n")
        self.assertEqual(mark(0, 3, 0, text, wrong), [0, 0, 0, 1, 0, 7, 2])

    def test_all_rows_and_all_digits(self):
        for rows in range(2, 65):
            for digits in range(1, 19):
                self.is_one(rows * digits, rows, digits)

    def test_seeds_at_their_bounds(self):
        for seed in SEEDS:
            for rows in ROWS:
                for digits in DIGITS:
                    self.is_one(seed, rows, digits)

    def test_drawn_seeds(self):
        source = random.Random(31)
        for turn in range(500):
            self.is_one(source.randrange(2 ** 64), source.randrange(2, 65), source.randrange(1, 19))

    def test_fewer_rows_are_the_first_of_more(self):
        for seed in SEEDS:
            for digits in DIGITS:
                most = self.drawn_rows(seed, 64, digits)
                for rows in (2, 3, 31, 63):
                    self.assertEqual(self.drawn_rows(seed, rows, digits), most[:rows])


class Refused(unittest.TestCase):
    def test_one_out_of_its_bounds(self):
        for seed in SEEDS_BEYOND:
            self.assertEqual(draw(seed, 2, 1), [-1], seed)
            self.assertEqual(draw(seed, 64, 18), [-1], seed)
        for rows in ROWS_BEYOND:
            self.assertEqual(draw(0, rows, 1), [-1], rows)
            self.assertEqual(draw(2 ** 64 - 1, rows, 18), [-1], rows)
        for digits in DIGITS_BEYOND:
            self.assertEqual(draw(0, 2, digits), [-1], digits)
            self.assertEqual(draw(2 ** 64 - 1, 64, digits), [-1], digits)

    def test_all_together(self):
        for seed in SEEDS + SEEDS_BEYOND:
            for rows in ROWS + ROWS_BEYOND:
                for digits in DIGITS + DIGITS_BEYOND:
                    is_in = seed in SEEDS and rows in ROWS and digits in DIGITS
                    answered = draw(seed, rows, digits)
                    self.assertEqual(answered[0], 0 if is_in else -1, (seed, rows, digits))
                    self.assertEqual(answered, expected_draw(seed, rows, digits), (seed, rows, digits))


class Kept(unittest.TestCase):
    cases = (
        (0, 2, 1),
        (2 ** 64 - 1, 64, 18),
        (12345, 10, 4),
        (2 ** 64, 2, 1),
        (0, 1, 1),
        (0, 2, 19),
    )

    def test_the_same_seed_draws_the_same(self):
        for seed, rows, digits in self.cases:
            first = draw(seed, rows, digits)
            first.append(99)
            draw(seed + 1, 5, 5)
            draw(2 ** 65 - 1, rows, digits)
            self.assertEqual(draw(seed, rows, digits) + [99], first)

    def test_what_is_answered_is_a_list_of_whole_numbers(self):
        for seed, rows, digits in self.cases:
            answered = draw(seed, rows, digits)
            self.assertIs(type(answered), list)
            for number in answered:
                self.assertIs(type(number), int)

    def test_the_arguments_by_name(self):
        self.assertEqual(draw(seed=0, rows=2, digits=1), [0] + as_bytes("10 sum 2\n1\n6\n"))


if __name__ == "__main__":
    unittest.main()
