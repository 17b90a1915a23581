"""The refusals, one error class for each."""


class NotWhole(Exception):
    """A list is not whole what it should be, or a number is out of its bounds (-1)."""


class NoSuchCounter(Exception):
    """The loop has no such counter (-2)."""


class NoSuchRound(Exception):
    """There is no such number of rounds (-3)."""


class NotHeld(Exception):
    """There are no values that could be those at the beginning from now on (-4)."""


class TooMany(Exception):
    """There would be too many beginnings (-6)."""


class NeverEnds(Exception):
    """The loop never ends, so there is no last state (-7)."""
