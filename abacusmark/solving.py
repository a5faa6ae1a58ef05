"""The right answers of problems, and how they are written."""

from abacusmark.exact import nearest
from abacusmark.exact import nearest_root
from abacusmark.exact import ten_to


def right_product(first, second, unit):
    return nearest(first.units * second.units * unit, first.scale * second.scale)


def right_quotient(first, second, unit):
    return nearest(first.units * second.scale * unit, first.scale * second.units)


def right_root(number, unit):
    return nearest_root(number.units * unit * unit, number.scale)


def right_answer(problem):
    """How many units of the problem's last place its right answer has."""
    numbers = problem.numbers
    unit = ten_to(problem.places)
    if problem.kind == "sum":
        return sum([row.units for row in numbers])
    if problem.kind == "product":
        return right_product(numbers[0], numbers[1], unit)
    if problem.kind == "quotient":
        return right_quotient(numbers[0], numbers[1], unit)
    return right_root(numbers[0], unit)


def written(units, places):
    """The words of a number that has so many units of its last place."""
    digits = str(abs(units)).rjust(places + 1, "0")
    words = digits
    if places > 0:
        before = len(digits) - places
        words = digits[:before] + "." + digits[before:]
    if units < 0:
        return "-" + words
    return words
