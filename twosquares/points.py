"""Points of the plane: sum, product, length, mirror and quarter turns."""

from twosquares.errors import NoNumber, NoPoint


def is_number(thing):
    """Tell whether a thing is a whole number: an int, but neither True nor False."""
    return isinstance(thing, int) and not isinstance(thing, bool)


def is_point(thing):
    """Tell whether a thing is a point: a tuple of two numbers, (across, up)."""
    if not isinstance(thing, tuple) or len(thing) != 2:
        return False
    across, up = thing
    return is_number(across) and is_number(up)


def number_of(thing):
    """Answer a number as a plain int, or refuse with NoNumber what is none."""
    if not is_number(thing):
        # The message does not show the thing: Python refuses to write out very large ints.
        raise NoNumber("a number is wanted: an int, but neither True nor False")
    return int(thing)


def numbers_of(point):
    """Answer across and up of a point as plain ints, or refuse with NoPoint what is none."""
    if not is_point(point):
        raise NoPoint("a point is wanted: a tuple of two numbers")
    across, up = point
    return int(across), int(up)


def plus(one, other):
    """Answer the sum of two points."""
    a, b = numbers_of(one)
    c, d = numbers_of(other)
    return a + c, b + d


def times(one, other):
    """Answer the product of two points."""
    a, b = numbers_of(one)
    c, d = numbers_of(other)
    return a * c - b * d, a * d + b * c


def length(point):
    """Answer the length of a point: the sum of the squares of across and up."""
    across, up = numbers_of(point)
    return across * across + up * up


def mirror(point):
    """Answer the mirror of a point: up becomes its opposite."""
    across, up = numbers_of(point)
    return across, -up


def turned(point, quarters=1):
    """Answer a point turned so many quarter turns, below 0 so many the other way."""
    across, up = numbers_of(point)
    # Four quarter turns lead back, so a number of any size is at most three turns of work.
    for _ in range(number_of(quarters) % 4):
        across, up = -up, across
    return across, up


def upright(point):
    """Answer the fewest quarter turns that lead to a point's upright turn, and that turn."""
    across, up = numbers_of(point)
    quarters = 0
    while not _stands_upright(across, up):
        across, up = -up, across
        quarters += 1
    return quarters, (across, up)


def _stands_upright(across, up):
    """Tell whether the point (across, up) is upright."""
    return across > 0 and up >= 0 or across == 0 and up == 0
