"""Dividing: quotient and rest, what divides a point, and the greatest common part."""

from twosquares.errors import NoQuotient
from twosquares.points import length, mirror, numbers_of, times, turned, upright


def parted(point, divisor):
    """Answer the nearest quotient of a point by a divisor, and the rest."""
    whole = numbers_of(point)
    by = numbers_of(divisor)
    if by == (0, 0):
        raise NoQuotient("there is no quotient by (0, 0)")
    across, up = times(whole, mirror(by))
    size = length(by)
    quotient = (_nearest(across, size), _nearest(up, size))
    return quotient, _less(whole, quotient, by)


def divides(divisor, point):
    """Tell whether some point times the divisor is the point."""
    by = numbers_of(divisor)
    whole = numbers_of(point)
    if by == (0, 0):
        return whole == (0, 0)
    _, rest = parted(whole, by)
    return rest == (0, 0)


def common(one, other):
    """Answer the greatest common part, and by which points one and other come to it in sum."""
    # Each row is (a point, first, second): the point is one times first and other times second.
    held = [numbers_of(one), (1, 0), (0, 0)]
    rest = [numbers_of(other), (0, 0), (1, 0)]
    while rest[0] != (0, 0):
        quotient, _ = parted(held[0], rest[0])
        held, rest = rest, [_less(old, quotient, new) for old, new in zip(held, rest)]
    part, first, second = held
    quarters, part = upright(part)
    return part, turned(first, quarters), turned(second, quarters)


def _nearest(number, by):
    """Answer the number nearest to number over by (above 0), of two as near the greater one."""
    return (2 * number + by) // (2 * by)


def _less(point, quotient, divisor):
    """Answer the point less quotient times divisor."""
    a, b = point
    c, d = times(quotient, divisor)
    return a - c, b - d
