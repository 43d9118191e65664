"""Rows broken into lines in all fonts of a FAMILY: whether a BREAKING is lawful and the best one in all of them."""

from everyfont.bars import is_bar_of
from everyfont.errors import NotNumber, NotPaper, TooGreat, Unlike
from everyfont.expressions import box_tops, name_row
from everyfont.families import family_pairs, need_served
from everyfont.formulas import word_of
from everyfont.lines import check_breaks, check_line_row, check_room, is_breaking, lines_of
from everyfont.numbers import ZERO, compared, greatest_of
from everyfont.points import is_point
from everyfont.rows import constant_row, row_added, row_minus, row_value
from everyfont.simplex import Table, bar_of
from everyfont.systems import first_false

MOST_BREAKINGS = 64


def rows_of_lines(family, formula):
    """Return the ROWS of the widths of all lines by their pairs (FIRST, LAST), ascending."""
    check_line_row(formula)
    need_served(family, formula)
    tops = [box_tops(family, part)[0] for part in formula[1:]]
    if any([len(top) > 1 for top in tops]):
        raise Unlike()
    rows = {}
    for first in range(len(tops)):
        row = tops[first][0]
        rows[(first, first + 1)] = row
        for last in range(first + 1, len(tops)):
            row = row_added(row_added(row, name_row(family, ("space", 0))), tops[last][0])
            rows[(first, last + 1)] = row
    return rows


def line_rows(family, formula):
    """Return the triples (FIRST, LAST, ROW) of all lines, ascending."""
    return tuple([(first, last, row) for (first, last), row in rows_of_lines(family, formula).items()])


def all_breakings(breaks):
    """Return the ascending list of all BREAKINGS."""
    found = [()]
    for place in reversed(breaks):
        found = [()] + [(place,) + own for own in found] + found[1:]
    return found


class Contest:
    """A BREAKING, the others with the ROWS of their lines, and the pairs that they have to hold on a FAMILY.

    The arguments are judged: any values are taken as room, BREAKS and breaking.
    """

    def __init__(self, family, formula, room, breaks, breaking):
        rows = rows_of_lines(family, formula)
        check_room(room)
        check_breaks(formula, breaks)
        if not is_breaking(breaks, breaking):
            raise NotNumber(breaking)
        if 1 << len(breaks) > MOST_BREAKINGS:
            raise TooGreat(MOST_BREAKINGS)
        self.count = len(family[0])
        self.pairs = family_pairs(family)
        self.room = constant_row(self.count, room)
        self.own = [rows[line] for line in lines_of(formula, breaking)]
        self.others = []
        for other in all_breakings(breaks):
            if other != breaking:
                self.others.append((other, [rows[line] for line in lines_of(formula, other)]))

    def ways_to_be_unlawful(self):
        """Return the further pairs of which one holds where breaking is not lawful."""
        return [(("gt", row_minus(row, self.room)),) for row in self.own]

    def ways_to_be_beaten(self):
        """Return the triples of the other BREAKINGS, the LINES, and the further pairs that hold where it is beaten."""
        found = []
        for other, rows in self.others:
            within = tuple([("ge", row_minus(self.room, row)) for row in rows])
            for number, line in enumerate(self.own[:-1]):
                found.append((other, number, within + tuple([("gt", row_minus(row, line)) for row in rows[:-1]])))
        return found

    def ways(self):
        """Return the further pairs of all systems, in the sequence of PAPERS."""
        return self.ways_to_be_unlawful() + [pairs for _, _, pairs in self.ways_to_be_beaten()]

    def badness_at(self, rows, point):
        """Return the badness of lines with these ROWS at a POINT, None if they are not lawful."""
        left = [row_value(row_minus(self.room, row), point) for row in rows]
        if any([own[0] < 0 for own in left]):
            return None
        return greatest_of([ZERO] + left[:-1])

    def is_beaten_at(self, point):
        """Return whether breaking is not lawful at a POINT or is beaten there."""
        badness = self.badness_at(self.own, point)
        if badness is None:
            return True
        for _, rows in self.others:
            other = self.badness_at(rows, point)
            if other is not None and compared(other, badness) < 0:
                return True
        return False


def beating(family, formula, room, breaks, breaking):
    """Return the triples (BREAKING, LINE, SYSTEM) of how breaking can be beaten, for any values as the last three."""
    contest = Contest(family, formula, room, breaks, breaking)
    return tuple([(other, line, contest.pairs + pairs) for other, line, pairs in contest.ways_to_be_beaten()])


def is_best(family, formula, room, breaks, breaking):
    """Return ("best", PAPERS) if breaking is lawful and not beaten in all fonts, or ("not", FONT)."""
    contest = Contest(family, formula, room, breaks, breaking)
    whole = Table(contest.count, contest.pairs)
    whole.solve()
    papers = []
    for pairs in contest.ways():
        table = whole.twin()
        for word, row in pairs:
            table.take_pair(word, row)
        shares = table.solve()
        if shares is None:
            return ("not", table.point())
        papers.append(bar_of(contest.pairs + pairs, shares))
    return ("best", tuple(papers))


def check_best(family, formula, room, breaks, breaking, value):
    """Return the first word of any value that is_best could return."""
    contest = Contest(family, formula, room, breaks, breaking)
    ways = contest.ways()
    word = word_of(value)
    if word not in ("best", "not") or len(value) != 2:
        raise NotPaper(("form",))
    if word == "not":
        if not is_point(contest.count, value[1]):
            raise NotPaper(("form",))
        if first_false(contest.pairs, value[1]) is not None or not contest.is_beaten_at(value[1]):
            raise NotPaper(("font",))
        return word
    if not isinstance(value[1], tuple) or len(value[1]) != len(ways):
        raise NotPaper(("form",))
    for number, pairs in enumerate(ways):
        if not is_bar_of(contest.count, contest.pairs + pairs, value[1][number]):
            raise NotPaper(("bar", number))
    return word
