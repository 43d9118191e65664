"""The greatest and the least value of a ROW where a SYSTEM holds, and papers that show it."""

from everyfont.bars import is_bar_of
from everyfont.errors import Empty, NotPaper
from everyfont.formulas import word_of
from everyfont.numbers import MINUS_ONE, is_int, opposite
from everyfont.points import is_point
from everyfont.rows import check_row, row_added, row_times, row_value, weighted_row
from everyfont.simplex import GOAL, Table, bar_of
from everyfont.systems import are_signed, check_system, first_false, is_strict, is_weights, loosened

# What stands behind each word of a paper.
PAPERS = {
    "none": ("weights",),
    "endless": ("point", "direction"),
    "met": ("point", "weights"),
    "near": ("point", "point", "weights"),
}


def climbed(table, system, row):
    """Return a paper on the greatest value of a ROW where the pairs of a Table hold."""
    column = table.climb(row)
    if column is not None:
        return ("endless", table.point(), table.direction(column))
    weights = table.goal_weights(system, row)
    # Where SMALL is in what was climbed to, the value itself is only come near to.
    if table.rows[GOAL][-1] == 0:
        return ("met", table.point(), weights)
    return ("near", table.point(), table.edge(), weights)


def paper_on(count, system, row):
    """Return a paper on the greatest value of a ROW where pairs, however many, hold."""
    table = Table(count, system)
    shares = table.solve()
    if shares is not None:
        return ("none", bar_of(system, shares))
    return climbed(table, system, row)


def shown(paper, row):
    """Return what a paper that holds shows of a ROW."""
    if paper[0] == "met":
        return ("most", row_value(row, paper[1]), True)
    if paper[0] == "near":
        return ("most", row_value(row, paper[2]), False)
    return (paper[0],)


def turned_over(found):
    """Return what is told of a ROW's least value by what is told of the opposite ROW's greatest value."""
    if found[0] == "most":
        return ("least", opposite(found[1]), found[2])
    return found


def greatest(count, system, row):
    """Return how great any value as ROW can be where a SYSTEM holds."""
    return shown(greatest_paper(count, system, row), row)


def least(count, system, row):
    """Return how small any value as ROW can be where a SYSTEM holds."""
    check_system(count, system)
    check_row(count, row)
    return turned_over(greatest(count, system, row_times(row, MINUS_ONE)))


def greatest_paper(count, system, row):
    """Return a paper on what greatest tells."""
    check_system(count, system)
    check_row(count, row)
    return paper_on(count, system, row)


def check_greatest(count, system, row, paper):
    """Return what any value as paper shows of greatest."""
    check_system(count, system)
    check_row(count, row)
    if not has_form(count, system, paper):
        raise NotPaper(("form",))
    if not paper_holds(count, system, row, paper):
        raise NotPaper((paper[0],))
    return shown(paper, row)


def has_form(count, system, paper):
    """Return whether any value is a paper by its word, its length and the kinds of its things."""
    word = word_of(paper)
    if word not in PAPERS or len(paper) != 1 + len(PAPERS[word]):
        return False
    return all([is_of_kind(count, system, kind, thing) for kind, thing in zip(PAPERS[word], paper[1:])])


def is_of_kind(count, system, kind, thing):
    """Return whether any value is a thing of this kind."""
    if kind == "point":
        return is_point(count, thing)
    if kind == "weights":
        return is_weights(system, thing)
    return isinstance(thing, tuple) and len(thing) == count and all([is_int(step) for step in thing])


def paper_holds(count, system, row, paper):
    """Return whether what has the form of a paper holds."""
    word = paper[0]
    if word == "none":
        return is_bar_of(count, system, paper[1])
    if first_false(system, paper[1]) is not None:
        return False
    if word == "endless":
        return is_endless_way(system, row, paper[2])
    if word == "near" and (first_false(loosened(system), paper[2]) is not None or not is_strict(system, paper[3])):
        return False
    return bounds(count, system, row, paper[-1], row_value(row, paper[-2]))


def slope(row, direction):
    """Return how the coefficients of a ROW times a direction add up, times its bottom."""
    return sum([weight * step for weight, step in zip(row[:-2], direction)])


def is_endless_way(system, row, direction):
    """Return whether a direction leads out of no pair and lets a ROW grow."""
    for word, own in system:
        rise = slope(own, direction)
        if rise < 0 or (rise > 0 and word == "eq"):
            return False
    return slope(row, direction) > 0


def bounds(count, system, row, weights, value):
    """Return whether the pairs times their weights add up everywhere to a value less a ROW's value."""
    if not are_signed(system, weights):
        return False
    sum_row = row_added(weighted_row(count, [own for _, own in system], weights), row)
    return all([weight == 0 for weight in sum_row[:-2]]) and sum_row[-2:] == value


def range_of(count, system, row):
    """Return the pair of what least and greatest tell of any value as ROW, None for what is endless."""
    check_system(count, system)
    check_row(count, row)
    table = Table(count, system)
    if table.solve() is not None:
        raise Empty()
    below = row_times(row, MINUS_ONE)
    low = turned_over(shown(climbed(table.twin(), system, below), below))
    high = shown(climbed(table, system, row), row)
    return (bound_of(low), bound_of(high))


def bound_of(found):
    """Return (VALUE, IS_MET) of what greatest or least tells, None for what is endless."""
    return None if found[0] == "endless" else found[1:]
