"""Where a ROW is greater than others: those that stand in its way are taken into account one by one.

ROWS are told here by their *tops*: their integers but the last one, over a bottom that all of them share.
"""

from everyfont.points import shared_bottom
from everyfont.simplex import Table


def tops_of(rows):
    """Return the list of the tops of ROWS, one at least, and their bottom."""
    bottom = shared_bottom([row[-1] for row in rows])
    return [tuple([top * (bottom // row[-1]) for top in row[:-1]]) for row in rows], bottom


def height(tops, point):
    """Return the value at a POINT times both bottoms, an integer."""
    return sum([own * top for own, top in zip(tops, point)])


def inner_table(count, system):
    """Return the solved Table of where the values of all ROWS of a SYSTEM are above 0, None if that is nowhere."""
    if any([word == "eq" for word, _ in system]):
        return None
    table = Table(count, [("gt", row) for _, row in system])
    return table if table.solve() is None else None


def cut(table, tops, other):
    """Let a solved Table take the pair that one row is greater than another one; return what solve tells of it."""
    table.take_pair("gt", [own - lower for own, lower in zip(tops, other)] + [1])
    return table.solve()


def climb_above(table, tops, others):
    """Return (POINT, used, shares): where the pairs of a solved Table hold and a row is greater than all others.

    used are the numbers of the others that it took as further pairs. If there is no such POINT, it is None, and shares
    are those of the Table's pairs, these behind all others, that show it; otherwise shares is None.
    """
    used = []
    while True:
        point = table.point()
        heights = [height(other, point) for other in others]
        if not heights or max(heights) < height(tops, point):
            return point, used, None
        used.append(heights.index(max(heights)))
        shares = cut(table, tops, others[used[-1]])
        if shares is not None:
            return None, used, shares


def counting_in(table, rows):
    """Return the TOP of those of unlike ROWS that count where the pairs of a solved Table, all "gt", hold."""
    all_tops = tops_of(rows)[0]
    left = list(all_tops)
    found = {}
    for tops in all_tops:
        if tops not in found and not is_found(table.twin(), tops, left, found):
            left.remove(tops)
    return tuple(sorted([row for row, tops in zip(rows, all_tops) if tops in found]))


def is_found(table, tops, left, found):
    """Return whether a row of those left counts; put it, and whatever other rows count on the way, into found."""
    while True:
        point = table.point()
        # Of rows that are equal here, this one is the greatest a little further on: the first numbers change most.
        best = max([(height(other, point), other) for other in left])[1]
        found[best] = True
        if best == tops:
            return True
        if cut(table, tops, best) is not None:
            return False
