"""SYSTEMS: tuples of pairs (WORD, ROW), and whether they hold at a POINT."""

from everyfont.errors import NotSystem
from everyfont.numbers import is_fraction
from everyfont.points import check_point
from everyfont.rows import is_row, row_sign

MOST_PAIRS = 60

WORDS = ("ge", "gt", "eq")


def is_pair(count, value):
    """Return whether any value is a pair (WORD, ROW) with a ROW of count numbers."""
    return isinstance(value, tuple) and len(value) == 2 and value[0] in WORDS and is_row(count, value[1])


def check_pairs(count, most, value):
    """Return any value that is a SYSTEM of count numbers with at most so many pairs."""
    if not isinstance(value, tuple) or len(value) > most:
        raise NotSystem(None)
    for number, pair in enumerate(value):
        if not is_pair(count, pair):
            raise NotSystem(number)
    return value


def check_system(count, system):
    """Return any value that is a SYSTEM of count numbers."""
    return check_pairs(count, MOST_PAIRS, system)


def pair_holds(pair, point):
    """Return whether a pair holds at a POINT."""
    word, row = pair
    sign = row_sign(row, point)
    if word == "eq":
        return sign == 0
    return sign > 0 or (sign == 0 and word == "ge")


def first_false(system, point):
    """Return the number of the first pair that does not hold at a POINT, None if all do."""
    for number, pair in enumerate(system):
        if not pair_holds(pair, point):
            return number
    return None


def first_broken(count, system, point):
    """Return the number of the first pair that does not hold at any value as POINT, None if all do."""
    check_system(count, system)
    return first_false(system, check_point(count, point))


def holds_all(count, system, point):
    """Return whether all pairs hold at any value as POINT."""
    return first_broken(count, system, point) is None


def loosened(system):
    """Return the SYSTEM with "ge" for each "gt"."""
    return tuple([("ge" if word == "gt" else word, row) for word, row in system])


def is_weights(system, value):
    """Return whether any value is a tuple of FRACTIONS, one for each pair."""
    if not isinstance(value, tuple) or len(value) != len(system):
        return False
    return all([is_fraction(weight) for weight in value])


def are_signed(system, weights):
    """Return whether no weight is negative but for "eq" pairs."""
    return all([weight[0] >= 0 or pair[0] == "eq" for pair, weight in zip(system, weights)])


def is_strict(system, weights):
    """Return whether some "gt" pair has a positive weight."""
    return any([weight[0] > 0 and pair[0] == "gt" for pair, weight in zip(system, weights)])
