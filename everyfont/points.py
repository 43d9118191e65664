"""POINTS: integers and, the last one, their common bottom, all without a common divisor."""

from math import gcd, lcm

from everyfont.errors import NotPoint
from everyfont.numbers import is_int, lowest


def shared_divisor(integers):
    """Return the greatest common divisor of several integers."""
    shared = 0
    for integer in integers:
        shared = gcd(shared, integer)
    return shared


def shared_bottom(bottoms):
    """Return the least common multiple of several integers from 1."""
    bottom = 1
    for own in bottoms:
        bottom = lcm(bottom, own)
    return bottom


def without_divisor(integers):
    """Return the tuple of integers, the last one from 1, divided by what divides them all."""
    shared = shared_divisor(integers)
    return tuple([integer // shared for integer in integers])


def fault_in_integers(count, value):
    """Return where any value is not count integers, the last from 1, without a common divisor.

    None if it is right, -1 if it is no tuple of count things, -2 if there is a common divisor.
    """
    if not isinstance(value, tuple) or len(value) != count:
        return -1
    for place, integer in enumerate(value):
        if not is_int(integer):
            return place
    if value[-1] < 1:
        return count - 1
    if shared_divisor(value) > 1:
        return -2
    return None


def is_point(size, value):
    """Return whether any value is a POINT of size numbers."""
    return fault_in_integers(size + 1, value) is None


def check_point(size, value):
    """Return any value that is a POINT of size numbers."""
    place = fault_in_integers(size + 1, value)
    if place is not None:
        raise NotPoint(place)
    return value


def point_of(numbers):
    """Return the POINT of a tuple of FRACTIONS."""
    bottom = shared_bottom([number[1] for number in numbers])
    return tuple([number[0] * (bottom // number[1]) for number in numbers] + [bottom])


def numbers_of(point):
    """Return the tuple of the FRACTIONS of a POINT."""
    return tuple([lowest(top, point[-1]) for top in point[:-1]])
