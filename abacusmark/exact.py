"""Numbers kept exactly."""


class Decimal:
    """The number units / scale; scale is 1, 10, 100 and so on."""

    def __init__(self, units, scale):
        self.units = units
        self.scale = scale
