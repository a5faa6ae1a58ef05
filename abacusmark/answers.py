"""The reading of answers that are handed in."""

from abacusmark.reader import MINUS
from abacusmark.reader import Reader

ANSWERS_RULE = 13
LINE_FEED = 10
MOST_SECONDS = 99999
MOST_ANSWER = 9999999999999999999999999999999999999999


class Answers:
    """The time in seconds, and of each answer its number (a Decimal), or None where it is left out."""

    def __init__(self, seconds, numbers):
        self.seconds = seconds
        self.numbers = numbers


def read_number(reader):
    """The number of an answer; None if it is left out."""
    if not reader.skip(MINUS):
        return reader.read_unsigned(MOST_ANSWER, True)
    # What stands behind it tells the "-" of a left out answer from that of a number.
    if reader.peek() == LINE_FEED:
        return None
    return reader.read_unsigned(MOST_ANSWER, False).negated()


def read_answers(text):
    """The Answers of a text; a Fault if the text is none."""
    reader = Reader(text, ANSWERS_RULE)
    reader.read_words("time ")
    seconds = reader.read_bounded(0, MOST_SECONDS)
    reader.read_words("\n")
    numbers = []
    while not reader.is_done():
        numbers.append(read_number(reader))
        reader.read_words("\n")
    return Answers(seconds, numbers)
