"""The refusals, one error class for each."""


class NotWhole(Exception):
    """A list is not whole what it should be, or a number is out of its bounds (-1)."""


class NoSuchRound(Exception):
    """There is no such number of rounds (-3)."""


class NeverEnds(Exception):
    """The loop never ends, so there is no last state (-7)."""
