"""Sheets for practice, drawn from a seed."""

from abacusmark.exact import ten_to
from abacusmark.problems import FEWEST_ROWS
from abacusmark.problems import MOST_ROWS

DRAWN_POINTS = 10
MOST_DIGITS = 18

FACTOR = 6364136223846793005
STEP = 1442695040888963407
# 2^64 and 2^63.
MODULUS = 18446744073709551616
HALF = 9223372036854775808


def can_be_drawn(seed, rows, digits):
    return seed < MODULUS and FEWEST_ROWS <= rows <= MOST_ROWS and 1 <= digits <= MOST_DIGITS


def next_x(x):
    return (FACTOR * x + STEP) % MODULUS


def drawn_numbers(seed, rows, digits):
    """The numbers of the rows; one that is taken away is below 0."""
    least = ten_to(digits - 1)
    numbers = []
    total = 0
    x = seed
    while len(numbers) < rows:
        x = next_x(x)
        number = least + x * 9 * least // MODULUS
        x = next_x(x)
        if x >= HALF and total >= number:
            number = -number
        total += number
        numbers.append(number)
    return numbers


def drawn_sheet(seed, rows, digits):
    """The words of a sheet of one sum."""
    lines = [f"{DRAWN_POINTS} sum {rows}\n"]
    for number in drawn_numbers(seed, rows, digits):
        lines.append(f"{number}\n")
    return "".join(lines)
