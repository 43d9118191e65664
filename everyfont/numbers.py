"""FRACTIONS: pairs (TOP, BOTTOM) in lowest terms, BOTTOM from 1."""

from math import gcd

from everyfont.errors import NotNumber

ZERO = (0, 1)
ONE = (1, 1)
MINUS_ONE = (-1, 1)


def is_int(value):
    """Return whether any value is an integer."""
    return isinstance(value, int) and not isinstance(value, bool)


def sign_of(number):
    """Return -1, 0 or 1: how an integer stands to 0."""
    if number < 0:
        return -1
    return 1 if number > 0 else 0


def is_fraction(value):
    """Return whether any value is a FRACTION."""
    if not isinstance(value, tuple) or len(value) != 2:
        return False
    top, bottom = value
    if not is_int(top) or not is_int(bottom):
        return False
    return bottom > 0 and gcd(top, bottom) == 1


def check_fraction(value):
    """Return any value that is a FRACTION."""
    if not is_fraction(value):
        raise NotNumber(value)
    return value


def lowest(top, bottom):
    """Return the FRACTION of two integers, bottom not 0."""
    if bottom == 0:
        raise NotNumber(bottom)
    shared = gcd(top, bottom)
    if bottom < 0:
        shared = -shared
    return (top // shared, bottom // shared)


def added(one, other):
    """Return the sum."""
    return lowest(one[0] * other[1] + other[0] * one[1], one[1] * other[1])


def minus(one, other):
    """Return the first less the second."""
    return lowest(one[0] * other[1] - other[0] * one[1], one[1] * other[1])


def times(one, other):
    """Return the product."""
    return lowest(one[0] * other[0], one[1] * other[1])


def divided(one, other):
    """Return the first divided by the second, which is not 0."""
    if other[0] == 0:
        raise NotNumber(other)
    return lowest(one[0] * other[1], one[1] * other[0])


def halfway(one, other):
    """Return the number in the middle between both."""
    return lowest(one[0] * other[1] + other[0] * one[1], 2 * one[1] * other[1])


def compared(one, other):
    """Return -1, 0 or 1: whether the first is less, equal, greater."""
    return sign_of(one[0] * other[1] - other[0] * one[1])


def opposite(number):
    """Return the number times -1."""
    return (-number[0], number[1])


def total(numbers):
    """Return the sum of several numbers."""
    found = ZERO
    for number in numbers:
        found = added(found, number)
    return found


def greatest_of(numbers):
    """Return the greatest of several numbers, one at least."""
    found = numbers[0]
    for number in numbers:
        if compared(number, found) > 0:
            found = number
    return found
