"""What a call answers in the place of a result."""


class TooLong(Exception):
    """A text has more bytes than a text may have."""

    def __init__(self):
        self.answered = [-6]


class Fault(Exception):
    """A text leaves, at a place, every text of its kind; the rule names the kind."""

    def __init__(self, rule, place):
        self.answered = [-5, rule, place]
