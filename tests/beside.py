"""Arithmetic of points and numbers, worked out beside the program, to compare with it."""


def product(one, other):
    """Answer the product of two points."""
    return one[0] * other[0] - one[1] * other[1], one[0] * other[1] + one[1] * other[0]


def total(one, other):
    """Answer the sum of two points."""
    return one[0] + other[0], one[1] + other[1]


def size(point):
    """Answer the length of a point."""
    return point[0] * point[0] + point[1] * point[1]


def four_turns(point):
    """Answer a point and its three other quarter turns."""
    across, up = point
    return [(across, up), (-up, across), (-across, -up), (up, -across)]


def stands_upright(point):
    """Tell whether a point is upright."""
    return point == (0, 0) or point[0] > 0 and point[1] >= 0


def primes_below(bound):
    """Answer the rising list of primes below a bound."""
    crossed = bytearray(bound)
    found = []
    for number in range(2, bound):
        if not crossed[number]:
            found.append(number)
            crossed[number * number::number] = b"x" * len(range(number * number, bound, number))
    return found
