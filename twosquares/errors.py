"""The refusals of the program."""


class PointError(ValueError):
    """Any refusal."""


class NoPoint(PointError):
    """What stands where a point is wanted is none."""


class NoNumber(PointError):
    """What stands where a number is wanted is none, or is out of its bounds."""


class NoQuotient(PointError):
    """There is no quotient by (0, 0)."""
