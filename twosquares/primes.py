"""Primes of a number, and the point whose length is a prime."""

from math import isqrt

from twosquares.errors import NoNumber
from twosquares.points import number_of

GREATEST = 1000000


def primes_of(number):
    """Answer the rising list of primes whose product is a number from 1 to 1000000."""
    rest = number_of(number)
    if rest < 1 or rest > GREATEST:
        raise NoNumber("a number from 1 to 1000000 is wanted")
    primes = []
    factor = 2
    while factor * factor <= rest:
        if rest % factor == 0:
            primes.append(factor)
            rest = rest // factor
        else:
            factor += 1
    if rest > 1:
        primes.append(rest)
    return primes


def point_of(prime):
    """Answer the upright point (a, b), a no greater than b, whose length is a prime."""
    number = number_of(prime)
    if primes_of(number) != [number] or number % 4 == 3:
        raise NoNumber("a prime up to 1000000 that is 2 or leaves 1 by 4 is wanted")
    # Such a prime is the sum of two squares, so this ends, and it meets the lesser one first.
    across = 1
    while not _is_square(number - across * across):
        across += 1
    return across, isqrt(number - across * across)


def _is_square(number):
    """Tell whether a number that is 0 or above is the square of one."""
    root = isqrt(number)
    return root * root == number
