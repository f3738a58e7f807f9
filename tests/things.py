"""Things of many kinds that the tests hand in."""

import copy
import enum
from collections import namedtuple
from decimal import Decimal
from fractions import Fraction

Named = namedtuple("Named", "across up")


class Whole(enum.IntEnum):
    """Numbers that are ints, of a kind of their own."""

    THREE = 3
    FOUR = 4


class Odd:
    """An object that neither compares, counts nor shows itself."""

    def __eq__(self, other):
        raise RuntimeError("compared")

    def __len__(self):
        raise RuntimeError("counted")

    def __bool__(self):
        raise RuntimeError("tested")

    def __repr__(self):
        raise RuntimeError("shown")

    __hash__ = None


HUGE = 10 ** 5000 + 7

NEITHER = [
    True, False, None, "", "1", "12", b"", b"1", 1.0, 0.5, float("nan"), float("inf"), 1j,
    Fraction(1), Fraction(1, 2), Decimal(1), [], [1], [1, 2], (), (1,), {}, {1: 2},
    set(), {1, 2}, frozenset([1, 2]), range(2), bytearray(b"ab"), len, lambda: 1, int, object,
    object(), Odd(), ValueError("1"), NotImplemented, ...,
]

NO_NUMBERS = NEITHER + [(1, 2), (0, 0)]

PAIRS_OF_NO_NUMBERS = [
    pair for thing in NO_NUMBERS for pair in [(thing, 1), (1, thing), (thing, thing)]
]

NO_POINTS = NEITHER + PAIRS_OF_NO_NUMBERS + [
    0, 1, -1, 2 ** 70, HUGE, (HUGE,), (1, 2, 3), (HUGE, 0, HUGE), (1, 2, 3, 4), ((1, 2),),
    ((1, 2), (3, 4)), [(1, 2)], [1, 2, 3], {"across": 1, "up": 2}, {1: 1, 2: 2}, "12", "(1, 2)",
    b"12", iter((1, 2)), zip((1,), (2,)),
]

CHANGEABLE = [[1, 2], {1: 2}, {1, 2}, bytearray(b"ab"), ([1], 2), (1, {2: 3}), [(1, 2), [3]]]

SMALL_POINTS = [(across, up) for across in range(-4, 5) for up in range(-4, 5)]

LARGE_POINTS = [
    (2 ** 64, 0), (0, -2 ** 64), (2 ** 63 - 1, -2 ** 63), (10 ** 40 + 1, 10 ** 40 - 3),
    (-10 ** 60, 7), (3, 10 ** 300 + 1), (-HUGE, HUGE + 1), (-1, -HUGE), (HUGE, 0), (0, HUGE),
]

POINTS = SMALL_POINTS + LARGE_POINTS


def copies(things):
    """Answer deep copies of things, to compare with what was handed in."""
    return copy.deepcopy(things)
