"""Reads the parts of a text, and finds the place where it leaves every text of its kind."""

from abacusmark.exact import Decimal
from abacusmark.refusals import Fault

MINUS = 45
POINT = 46
NOUGHT = 48
NINE = 57
MOST_WHOLE = 999999999999999999
MOST_SCALE = 1000000000


def reaches(value, low, high):
    """Whether value, as it is or with more digits behind it, is one of low to high."""
    least = value
    most = value
    while least <= high:
        if most >= low:
            return True
        # No digit stands behind a nought that comes first.
        if value == 0:
            return False
        least = least * 10
        most = most * 10 + 9
    return False


class Reader:
    """A text and the place up to which it is read.

    Each byte is taken only if some text of the kind goes on with it, so that
    the place is the text's fault as soon as a byte is not taken.
    """

    def __init__(self, text, rule):
        self.text = text
        self.rule = rule
        self.at = 0

    def is_done(self):
        return self.at == len(self.text)

    def peek(self):
        """The byte at the place; -1, which is no byte, at the text's end."""
        if self.is_done():
            return -1
        return self.text[self.at]

    def peek_digit(self):
        """The worth of the digit at the place; -1 if there is no digit."""
        byte = self.peek()
        if NOUGHT <= byte <= NINE:
            return byte - NOUGHT
        return -1

    def skip(self, byte):
        """Takes the byte if it is there, and tells whether it was."""
        if self.peek() != byte:
            return False
        self.at += 1
        return True

    def read_words(self, words):
        for sign in words:
            if not self.skip(ord(sign)):
                raise Fault(self.rule, self.at)

    def read_bounded(self, low, high):
        """A number from low to high, in tens, with no noughts before."""
        start = self.at
        value = 0
        while self.peek_digit() >= 0 and (self.at == start or value > 0):
            grown = value * 10 + self.peek_digit()
            if not reaches(grown, low, high):
                break
            value = grown
            self.at += 1
        if self.at == start or value < low:
            raise Fault(self.rule, self.at)
        return value

    def read_whole(self):
        if self.skip(MINUS):
            return -self.read_bounded(1, MOST_WHOLE)
        return self.read_bounded(0, MOST_WHOLE)

    def read_decimal(self, may_be_below, may_be_nought):
        """A decimal of a sheet; the arguments tell whether it may be below 0, and whether it may be 0."""
        if may_be_below and self.skip(MINUS):
            return self.read_unsigned(MOST_WHOLE, False).negated()
        return self.read_unsigned(MOST_WHOLE, may_be_nought)

    def read_unsigned(self, most_whole, may_be_nought):
        """A number with no sign, and with at most most_whole before its point."""
        number = Decimal(self.read_bounded(0, most_whole), 1)
        if self.skip(POINT):
            self.read_tail(number, may_be_nought)
        if number.units == 0 and not may_be_nought:
            raise Fault(self.rule, self.at)
        return number

    def read_tail(self, number, may_be_nought):
        """Puts the digits behind the point onto the number."""
        while self.peek_digit() >= 0 and number.scale < MOST_SCALE:
            units = number.units * 10 + self.peek_digit()
            scale = number.scale * 10
            # With its last digit a nought too the number is 0 for good: no text goes on so.
            if units == 0 and scale == MOST_SCALE and not may_be_nought:
                break
            number.units = units
            number.scale = scale
            self.at += 1
        if number.scale == 1:
            raise Fault(self.rule, self.at)
