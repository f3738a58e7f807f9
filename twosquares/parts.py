"""Simple points, and the simple points that a point is the product of."""

from twosquares.dividing import divides, parted
from twosquares.points import length, numbers_of, upright
from twosquares.primes import point_of, primes_of


def is_simple(point):
    """Tell whether a point with a length from 1 to 1000000 is simple."""
    # primes_of refuses what lies out of these bounds.
    primes = primes_of(length(point))
    # A prime that leaves 3 by 4 goes into a length only twice: a turn of (prime, 0) has just these.
    return len(primes) == 1 or len(primes) == 2 and primes[0] % 4 == 3


def parts_of(point):
    """Answer how many quarter turns of the product of which upright simple points a point is."""
    rest = numbers_of(point)
    parts = []
    for simple in _simple_points(primes_of(length(point))):
        while divides(simple, rest):
            rest, _ = parted(rest, simple)
            parts.append(simple)
    # The rest has length 1 now, and is as many turns of (1, 0) as the point is of the product.
    back, _ = upright(rest)
    return -back % 4, parts


def _simple_points(primes):
    """Answer the upright simple points over some primes, by rising length, then across."""
    found = []
    for prime in sorted(set(primes)):
        for simple in _simple_points_over(prime):
            found.append((length(simple), simple))
    return [simple for _, simple in sorted(found)]


def _simple_points_over(prime):
    """Answer the upright simple points whose length is a prime, or else its square."""
    if prime % 4 == 3:
        return [(prime, 0)]
    a, b = point_of(prime)
    if a == b:
        return [(a, b)]
    return [(a, b), (b, a)]
