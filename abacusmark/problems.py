"""Problems, and the reading of a sheet of them."""

from abacusmark.exact import Decimal
from abacusmark.reader import Reader
from abacusmark.refusals import Fault

SHEET_RULE = 12
FEWEST_ROWS = 2
MOST_ROWS = 64

# The four words differ in their first byte, so that byte alone tells which one must follow.
KIND_BY_BYTE = {115: "sum", 112: "product", 113: "quotient", 114: "root"}


class Problem:
    """The points, the kind's word, the numbers (Decimals) and the places of the answer."""

    def __init__(self, points, kind, numbers, places):
        self.points = points
        self.kind = kind
        self.numbers = numbers
        self.places = places


def read_kind(reader):
    byte = reader.peek()
    if byte not in KIND_BY_BYTE:
        raise Fault(reader.rule, reader.at)
    kind = KIND_BY_BYTE[byte]
    reader.read_words(kind)
    return kind


def read_rows(reader):
    rows = reader.read_bounded(FEWEST_ROWS, MOST_ROWS)
    reader.read_words("\n")
    numbers = []
    while len(numbers) < rows:
        numbers.append(Decimal(reader.read_whole(), 1))
        reader.read_words("\n")
    return numbers


def read_operands(reader, kind):
    """The decimals of a problem that is no sum, each with the blank behind it."""
    numbers = [reader.read_decimal(kind != "root", True)]
    reader.read_words(" ")
    if kind != "root":
        numbers.append(reader.read_decimal(True, kind != "quotient"))
        reader.read_words(" ")
    return numbers


def read_problem(reader):
    points = reader.read_bounded(1, 999)
    reader.read_words(" ")
    kind = read_kind(reader)
    reader.read_words(" ")
    if kind == "sum":
        return Problem(points, kind, read_rows(reader), 0)
    numbers = read_operands(reader, kind)
    places = reader.read_bounded(0, 9)
    reader.read_words("\n")
    return Problem(points, kind, numbers, places)


def read_sheet(text):
    """The problems of a sheet; a Fault if the text is none."""
    reader = Reader(text, SHEET_RULE)
    problems = []
    while not reader.is_done():
        problems.append(read_problem(reader))
    return problems
