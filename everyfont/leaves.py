"""The ROWS OF A LEAF of a TREE.

They are told by *shares*: FRACTIONS by their columns, which are 0 where nothing is told. The unknown NAMES have the
columns from 0, the STEPS those behind, and None is the constant's.
"""

from everyfont.claims import unfolded
from everyfont.families import family_pairs
from everyfont.numbers import MINUS_ONE, ONE, ZERO, added, is_fraction, times
from everyfont.points import shared_bottom
from everyfont.rows import coefficients_of


def put_shares(shares, others, factor):
    """Add the shares of another row, times a FRACTION, to those of a row."""
    for column, share in others.items():
        shares[column] = added(shares.get(column, ZERO), times(share, factor))


class Leaves:
    """The rows of all leaves for a FORMULA on a FAMILY, told by its Spans; each is made once, when it is asked for."""

    def __init__(self, spans):
        self.spans = spans
        names, fixed, _ = spans.family
        self.first = len(names)
        self.columns = {name: number for number, name in enumerate(names)}
        self.numbers = {name: number for name, number in fixed}
        self.ahead = [(word, self.shares_of_row(row)) for word, row in family_pairs(spans.family)]
        self.blocks = {}

    def shares_of_row(self, row):
        """Return the shares of a ROW of the unknowns."""
        shares = {}
        for column, share in enumerate(coefficients_of(row)):
            if share != ZERO:
                shares[column if column < self.first else None] = share
        return shares

    def shares_of_sum(self, pairs):
        """Return the shares of a SUM of NAMES, numbers of STEPS, PLACES and None."""
        shares = {}
        for thing, share in unfolded(self.spans.written, pairs):
            if thing is None:
                put_shares(shares, {None: ONE}, share)
            elif not isinstance(thing, tuple):
                put_shares(shares, {self.first + thing: ONE}, share)
            elif thing in self.columns:
                put_shares(shares, {self.columns[thing]: ONE}, share)
            else:
                put_shares(shares, {None: self.numbers[thing]}, share)
        return shares

    def block(self, step, member):
        """Return the rows (WORD, shares) of a STEP that is split with a member, or is not, the member being None."""
        if (step, member) not in self.blocks:
            self.blocks[(step, member)] = self.fresh_block(step, member)
        return self.blocks[(step, member)]

    def fresh_block(self, step, member):
        """Return the same, made anew."""
        word, things = self.spans.steps[step]
        own = self.first + step
        if word == "sum":
            shares = self.shares_of_sum(things)
            shares[own] = MINUS_ONE
            return [("eq", shares)]
        columns = [self.first + number for number in things]
        if member is None:
            member = self.spans.settled[step]
        if member is None:
            rows = [("ge", {own: ONE, column: MINUS_ONE}) for column in columns]
            high = self.spans.ranges[step][1]
            return rows if high is None else rows + [("ge", {None: high, own: MINUS_ONE})]
        rows = [("eq", {columns[member]: ONE, own: MINUS_ONE})]
        for column in columns[:member] + columns[member + 1:]:
            rows.append(("ge", {columns[member]: ONE, column: MINUS_ONE}))
        return rows

    def rows_of_case(self, case):
        """Return the rows (WORD, shares) of a conjunction."""
        return [(word, self.shares_of_sum(pairs)) for word, pairs in case]

    def rows_of_leaf(self, splits, case):
        """Return the rows of a leaf, with the members of the STEPS that are split, and the rows of its case or None."""
        rows = list(self.ahead)
        for step in range(len(self.spans.steps)):
            rows.extend(self.block(step, splits.get(step)))
        return rows if case is None else rows + case

    def starts(self, splits):
        """Return the number of each STEP's first row in such a leaf, and of the case's first one."""
        starts = [len(self.ahead)]
        for step in range(len(self.spans.steps)):
            starts.append(starts[-1] + len(self.block(step, splits.get(step))))
        return starts

    def row_of_shares(self, shares):
        """Return the ROW of the unknowns and all STEPS that has these shares."""
        size = self.first + len(self.spans.steps)
        bottom = shared_bottom([share[1] for share in shares.values()])
        integers = [0] * (size + 1) + [bottom]
        for column, share in shares.items():
            integers[size if column is None else column] = share[0] * (bottom // share[1])
        return tuple(integers)


def is_bar_with(rows, weights):
    """Return whether any value is a tuple of weights that show that the rows of a leaf cannot all hold."""
    if not isinstance(weights, tuple) or len(weights) != len(rows) or not all([is_fraction(own) for own in weights]):
        return False
    shares = {}
    is_strict = False
    for (word, own), weight in zip(rows, weights):
        if weight[0] < 0 and word != "eq":
            return False
        if weight[0] != 0:
            put_shares(shares, own, weight)
            is_strict = is_strict or word == "gt"
    constant = shares.pop(None, ZERO)[0]
    if any([share != ZERO for share in shares.values()]):
        return False
    return constant < 0 or (constant == 0 and is_strict)
