"""BOUNDS of STEPS over all fonts of a FAMILY, and which "greatest" they settle."""

from everyfont.best import climbed, shown
from everyfont.families import family_pairs, need_served
from everyfont.numbers import MINUS_ONE, ZERO, added, compared, greatest_of, opposite, times
from everyfont.rows import row_times, unit_row
from everyfont.simplex import Table
from everyfont.steps import Written

NO_BOUNDS = (None, None)


def name_bounds(family):
    """Return the BOUNDS of all NAMES of a FAMILY by these."""
    names, fixed, _ = family
    pairs = family_pairs(family)
    table = Table(len(names), pairs)
    is_empty = table.solve() is not None
    bounds = {}
    for number, name in enumerate(names):
        unit = unit_row(len(names), number)
        bounds[name] = NO_BOUNDS if is_empty else (least_in(table, pairs, unit), greatest_in(table, pairs, unit))
    for name, number in fixed:
        bounds[name] = (number, number)
    return bounds


def greatest_in(table, pairs, row):
    """Return the VALUE that greatest tells of a ROW where the pairs of a solved Table hold, None if it is endless."""
    found = shown(climbed(table.twin(), pairs, row), row)
    return None if found[0] == "endless" else found[1]


def least_in(table, pairs, row):
    """Return likewise what least tells."""
    found = greatest_in(table, pairs, row_times(row, MINUS_ONE))
    return None if found is None else opposite(found)


def sum_bounds(pairs, names, steps):
    """Return the BOUNDS of a SUM, with those of NAMES and of STEPS."""
    low = high = ZERO
    for thing, share in pairs:
        least, greatest = names[thing] if isinstance(thing, tuple) else steps[thing]
        if share[0] < 0:
            least, greatest = greatest, least
        low = None if low is None or least is None else added(low, times(share, least))
        high = None if high is None or greatest is None else added(high, times(share, greatest))
    return (low, high)


def greatest_bounds(members):
    """Return the BOUNDS of a "greatest" with those of its members."""
    lows = [low for low, _ in members if low is not None]
    highs = [high for _, high in members]
    return (greatest_of(lows) if lows else None, None if None in highs else greatest_of(highs))


def settling_member(members):
    """Return the number of the member that settles a "greatest", with the BOUNDS of its members, None if none does."""
    for number, (low, _) in enumerate(members):
        others = [high for _, high in members[:number] + members[number + 1:]]
        if not others:
            return number
        if low is not None and None not in others and compared(low, greatest_of(others)) >= 0:
            return number
    return None


class Spans:
    """The STEPS of a FORMULA that a FAMILY serves, their BOUNDS, and for each the member that settles it or None."""

    def __init__(self, formula, family):
        need_served(family, formula)
        self.family = family
        self.written = Written(formula)
        self.steps = self.written.steps
        self.ranges = []
        self.settled = []
        names = name_bounds(family)
        for word, things in self.steps:
            members = [self.ranges[number] for number in things] if word == "greatest" else []
            self.ranges.append(greatest_bounds(members) if members else sum_bounds(things, names, self.ranges))
            self.settled.append(settling_member(members))

    def unsettled(self):
        """Return the ascending numbers of the STEPS that are open."""
        return tuple([
            number for number, (word, _) in enumerate(self.steps)
            if word == "greatest" and self.settled[number] is None])


def step_bounds(formula, family):
    """Return the pairs (LEAST, GREATEST) of all STEPS of a FORMULA on a FAMILY."""
    return tuple(Spans(formula, family).ranges)


def open_steps(formula, family):
    """Return the ascending numbers of the STEPS of a FORMULA that are open on a FAMILY."""
    return Spans(formula, family).unsettled()
