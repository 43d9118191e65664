"""BARS: weights that show that a SYSTEM holds nowhere, and what is so wherever it holds."""

from everyfont.numbers import MINUS_ONE
from everyfont.rows import check_row, row_times, weighted_row
from everyfont.simplex import Table, bar_of
from everyfont.systems import are_signed, check_system, is_strict, is_weights


def is_bar_of(count, system, weights):
    """Return whether any value is a BAR of pairs, however many."""
    if not is_weights(system, weights) or not are_signed(system, weights):
        return False
    total = weighted_row(count, [row for _, row in system], weights)
    if any([coefficient != 0 for coefficient in total[:-2]]):
        return False
    return total[-2] < 0 or (total[-2] == 0 and is_strict(system, weights))


def holds_somewhere(count, system):
    """Return whether pairs, however many, hold at some POINT."""
    return Table(count, system).solve() is None


def point_or_bar(count, system):
    """Return ("point", POINT) where a SYSTEM holds, or ("bar", WEIGHTS), a BAR of few weights other than 0."""
    check_system(count, system)
    table = Table(count, system)
    shares = table.solve()
    if shares is None:
        return ("point", table.point())
    return ("bar", bar_of(system, shares))


def is_bar(count, system, weights):
    """Return whether any value is a BAR of a SYSTEM."""
    check_system(count, system)
    return is_bar_of(count, system, weights)


def implied(count, system, row):
    """Return whether the value of any value as ROW is at least 0 wherever a SYSTEM holds."""
    check_system(count, system)
    check_row(count, row)
    return not holds_somewhere(count, system + (("gt", row_times(row, MINUS_ONE)),))


def needless(count, system):
    """Return the ascending numbers of the pairs without each of which alone a SYSTEM holds at the same POINTS."""
    check_system(count, system)
    table = Table(count, system)
    shares = table.solve()
    numbers = range(len(system))
    if shares is None:
        return tuple([number for number in numbers if follows_from_others(table, number, system[number][0])])
    # A BAR in which a pair has no weight is one of the others.
    return tuple([number for number in numbers if shares[number] == 0 or not holds_without(table, number)])


def holds_without(table, number):
    """Return whether the pairs of a Table but for one hold somewhere."""
    others = table.twin()
    others.drop(number)
    return others.solve() is None


def follows_from_others(table, number, word):
    """Return whether a pair of a Table that holds cannot be denied while the others hold."""
    for sign in (1, -1) if word == "eq" else (-1,):
        denied = table.twin()
        denied.deny(number, sign)
        if denied.solve() is None:
            return False
    return True
