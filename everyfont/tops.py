"""TOPS: ascending tuples of ROWS, whose value is the greatest one of theirs."""

from everyfont.errors import NotRow, TooGreat
from everyfont.numbers import greatest_of
from everyfont.rows import is_row, row_added, row_times, row_value

MOST_ROWS = 400


def top_of(rows):
    """Return the TOP of a list of ROWS."""
    return tuple(sorted(set(rows)))


def check_top(count, value):
    """Return any value that is a TOP of count numbers."""
    if not isinstance(value, tuple) or len(value) == 0:
        raise NotRow(-1)
    for number, row in enumerate(value):
        if not is_row(count, row):
            raise NotRow(number)
        if number > 0 and row <= value[number - 1]:
            raise NotRow(number)
    return value


def check_few(rows):
    """Refuse more ROWS than a TOP may have that is made of others."""
    if len(rows) > MOST_ROWS:
        raise TooGreat(MOST_ROWS)


def top_value(top, point):
    """Return the value of a TOP at a POINT."""
    return greatest_of([row_value(row, point) for row in top])


def top_rows_at(top, point):
    """Return the ascending numbers of the ROWS that have the value of a TOP at a POINT."""
    values = [row_value(row, point) for row in top]
    greatest = greatest_of(values)
    return tuple([number for number, value in enumerate(values) if value == greatest])


def top_added(one, other):
    """Return the TOP of all sums of a ROW of each."""
    found = {}
    for row in one:
        for own in other:
            found[row_added(row, own)] = True
        check_few(found)
    return tuple(sorted(found))


def top_joined(one, other):
    """Return the TOP of the ROWS of both."""
    found = top_of(one + other)
    check_few(found)
    return found


def top_times(top, value):
    """Return the TOP of the ROWS times a FRACTION above 0."""
    return top_of([row_times(row, value) for row in top])


def top_moved(top, row):
    """Return the TOP of the ROWS with a ROW added to each."""
    return top_of([row_added(own, row) for own in top])
