"""Whether one TOP is never more than another where a SYSTEM holds, and papers that show it."""

from everyfont.above import climb_above, tops_of
from everyfont.bars import is_bar_of
from everyfont.errors import NotPaper
from everyfont.formulas import word_of
from everyfont.numbers import ONE, ZERO, compared, lowest, total
from everyfont.points import is_point
from everyfont.rows import row_minus, weighted_row
from everyfont.simplex import Table, bar_of
from everyfont.systems import are_signed, first_false, is_weights
from everyfont.tops import top_value


def never_more(count, system, one, other):
    """Return whether the first TOP's value is at most the second one's wherever a SYSTEM holds."""
    return never_paper(count, system, one, other)[0] == "means"


def never_paper(count, system, one, other):
    """Return a PAPER on what never_more tells."""
    table = Table(count, system)
    shares = table.solve()
    if shares is not None:
        return ("means", (((ZERO,) * len(other), bar_of(system, shares)),) * len(one))
    tops, bottom = tops_of(one + other)
    others = tops[len(one):]
    papers = []
    for own in tops[:len(one)]:
        point, used, shares = climb_above(table.twin(), own, others)
        if point is not None:
            return ("point", point)
        heavy = [share * bottom for share in shares[len(system):]]
        weights = [share * pair[1][-1] for share, pair in zip(shares, system)]
        papers.append(means_of(len(other), used, heavy, weights))
    return ("means", tuple(papers))


def means_of(many, used, heavy, weights):
    """Return (MEAN, WEIGHTS) in proportion to the integers heavy of those used of so many ROWS, and weights of pairs.

    As the pairs hold somewhere, no BAR is of them alone: the integers heavy add up to more than 0.
    """
    whole = sum(heavy)
    means = [ZERO] * many
    for number, share in zip(used, heavy):
        means[number] = lowest(share, whole)
    return (tuple(means), tuple([lowest(weight, whole) for weight in weights]))


def check_never(count, system, one, other, paper):
    """Return whether any value as paper shows that the first TOP is never more."""
    if not has_form(count, system, one, other, paper):
        raise NotPaper(("form",))
    word, things = paper
    if word == "point":
        holds = first_false(system, things) is None and compared(top_value(one, things), top_value(other, things)) > 0
    else:
        holds = all([bounds_row(count, system, row, other, means) for row, means in zip(one, things)])
    if not holds:
        raise NotPaper((word,))
    return word == "means"


def has_form(count, system, one, other, paper):
    """Return whether any value is a PAPER by its word, its length and the kinds of its things."""
    word = word_of(paper)
    if word not in ("means", "point") or len(paper) != 2:
        return False
    if word == "point":
        return is_point(count, paper[1])
    if not isinstance(paper[1], tuple) or len(paper[1]) != len(one):
        return False
    return all([is_means(system, other, means) for means in paper[1]])


def is_means(system, other, value):
    """Return whether any value is a pair of as many FRACTIONS as there are ROWS and pairs."""
    if not isinstance(value, tuple) or len(value) != 2:
        return False
    return is_weights(other, value[0]) and is_weights(system, value[1])


def bounds_row(count, system, row, other, means):
    """Return whether (MEAN, WEIGHTS) show that a ROW is nowhere more than a TOP."""
    mean, weights = means
    if all([share == ZERO for share in mean]):
        return is_bar_of(count, system, weights)
    if total(mean) != ONE or any([share[0] < 0 for share in mean]) or not are_signed(system, weights):
        return False
    above = row_minus(weighted_row(count, other, mean), row)
    left = row_minus(above, weighted_row(count, [own for _, own in system], weights))
    return left[-2] >= 0 and all([weight == 0 for weight in left[:-2]])
