"""ROWS: coefficients, a constant and, the last one, their common bottom."""

from everyfont.errors import NotRow
from everyfont.numbers import MINUS_ONE, lowest, sign_of
from everyfont.points import fault_in_integers, numbers_of, point_of, shared_bottom, without_divisor


def is_row(size, value):
    """Return whether any value is a ROW of size numbers."""
    return fault_in_integers(size + 2, value) is None


def check_row(size, value):
    """Return any value that is a ROW of size numbers."""
    place = fault_in_integers(size + 2, value)
    if place is not None:
        raise NotRow(place)
    return value


def row_of(numbers):
    """Return the ROW with these FRACTIONS, the last one its constant."""
    return point_of(numbers)


def coefficients_of(row):
    """Return the FRACTIONS of a ROW, the last one its constant."""
    return numbers_of(row)


def top_at(row, point):
    """Return the value at a POINT times both bottoms, an integer."""
    return row[-2] * point[-1] + sum([weight * top for weight, top in zip(row[:-2], point[:-1])])


def row_value(row, point):
    """Return the value of a ROW at a POINT, a FRACTION."""
    return lowest(top_at(row, point), row[-1] * point[-1])


def row_sign(row, point):
    """Return the sign of the value of a ROW at a POINT."""
    return sign_of(top_at(row, point))


def row_added(one, other):
    """Return the ROW whose value is the sum."""
    tops = [top * other[-1] + added_top * one[-1] for top, added_top in zip(one[:-1], other[:-1])]
    return without_divisor(tops + [one[-1] * other[-1]])


def row_minus(one, other):
    """Return the ROW whose value is the first one less the second."""
    return row_added(one, row_times(other, MINUS_ONE))


def row_times(row, value):
    """Return the ROW whose value is that of a ROW times a FRACTION."""
    return without_divisor([top * value[0] for top in row[:-1]] + [row[-1] * value[1]])


def unit_row(size, number):
    """Return the ROW of size numbers whose value is the one with this number."""
    return (0,) * number + (1,) + (0,) * (size - number) + (1,)


def constant_row(size, number):
    """Return the ROW of size numbers whose value is a FRACTION."""
    return (0,) * size + number


def weighted_row(size, rows, weights):
    """Return the ROW of size numbers whose value is the sum of those of rows times FRACTIONS."""
    used = [(row, weight) for row, weight in zip(rows, weights) if weight[0] != 0]
    bottom = shared_bottom([row[-1] * weight[1] for row, weight in used])
    tops = [0] * (size + 1)
    for row, weight in used:
        share = weight[0] * (bottom // (row[-1] * weight[1]))
        tops = [top + share * own for top, own in zip(tops, row[:-1])]
    return without_divisor(tops + [bottom])


def row_through(row, rows):
    """Return the ROW whose value is that of row at the values of rows, at least one."""
    bottom = shared_bottom([inner[-1] for inner in rows])
    tops = [0] * (len(rows[0]) - 1)
    for weight, inner in zip(row[:-2], rows):
        share = weight * (bottom // inner[-1])
        tops = [top + share * own for top, own in zip(tops, inner[:-1])]
    tops[-1] += row[-2] * bottom
    return without_divisor(tops + [row[-1] * bottom])
