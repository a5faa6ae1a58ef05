"""Numbers kept exactly."""


class Decimal:
    """The number units / scale; scale is 1, 10, 100 and so on."""

    def __init__(self, units, scale):
        self.units = units
        self.scale = scale

    def negated(self):
        return Decimal(-self.units, self.scale)


def ten_to(count):
    power = 1
    for step in range(count):
        power *= 10
    return power


def nearest(top, bottom):
    """The whole number nearest to top / bottom; of two as near, the one farther from 0."""
    size = (2 * abs(top) + abs(bottom)) // (2 * abs(bottom))
    if (top < 0) == (bottom < 0):
        return size
    return -size


def whole_root(number):
    """The greatest whole number whose square is not above number, which is not below 0."""
    if number == 0:
        return 0
    # From above, no step falls below the root, so it is reached when a step comes no nearer.
    root = number
    nearer = (root + number // root) // 2
    while nearer < root:
        root = nearer
        nearer = (root + number // root) // 2
    return root


def nearest_root(top, bottom):
    """The whole number nearest to the root of top / bottom; of two as near, the greater."""
    # Twice the root, rounded down, tells on which side of the half the root lies.
    return (whole_root(4 * top // bottom) + 1) // 2
