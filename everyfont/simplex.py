"""The simplex method over integers: where the pairs of a SYSTEM hold, and how great a ROW can be there.

The unknowns and the pairs are *things*: the unknowns have the numbers from 0, the pairs those from count. A pair's
thing is the value of its ROW times the ROW's bottom, and for "gt" less SMALL, a number above 0 that is less than all
others: so each pair wants its thing to be at least 0, and "eq" wants it to be 0.
"""

from everyfont.numbers import lowest
from everyfont.points import shared_divisor, without_divisor

# Two more rows of a Table: what is to become great, and what keeps the way to the first point short.
GOAL = -1
COST = -2


def exchanged(row, lead, column, bottom):
    """Return the integers of a row once the thing of lead has changed places with the outside one of column.

    They are determinants of the first integers, so that each division leaves nothing over.
    """
    size = abs(lead[column])
    share = row[column] if lead[column] > 0 else -row[column]
    if share == 0:
        return row if size == bottom else [own * size // bottom for own in row]
    fresh = [(own * size - share * other) // bottom for own, other in zip(row, lead)]
    fresh[column] = share
    return fresh


def turned(row, column, sign):
    """Return the integers of a row if the outside thing of column is sign times a fresh one and SMALL."""
    fresh = list(row)
    fresh[column] = sign * row[column]
    fresh[-1] += sign * row[column]
    return fresh


def is_better(gain, thing, best):
    """Return whether a gain is greater than that of best, or as great and of a lesser thing.

    A gain (TOP, SMALLS, BOTTOM) is TOP and SMALLS times SMALL, by BOTTOM; best is (gain, thing, ..) or None. That the
    lesser thing wins keeps the method from going round in circles (Bland's rule) where nothing is gained.
    """
    if best is None:
        return True
    other = best[0]
    one = (gain[0] * other[2], gain[1] * other[2])
    two = (other[0] * gain[2], other[1] * gain[2])
    return one > two or (one == two and thing < best[1])


class Table:
    """The things inside, told by those outside, which are 0 for now.

    rows has for each thing inside how often each outside one is in it, then 1, then SMALL: integers, to be divided by
    bottom. No list in rows is ever changed, so that twins may share them.
    """

    def __init__(self, count, pairs):
        self.count = count
        self.bottom = 1
        self.outside = list(range(count))
        self.fixed = [word == "eq" for word, _ in pairs]
        self.rows = {}
        for number, (word, row) in enumerate(pairs):
            self.rows[count + number] = list(row[:-1]) + [-1 if word == "gt" else 0]

    def twin(self):
        """Return a Table in the same state, independent of this one."""
        twin = Table(self.count, ())
        twin.bottom = self.bottom
        twin.outside = list(self.outside)
        twin.fixed = list(self.fixed)
        twin.rows = dict(self.rows)
        return twin

    def is_bounded(self, thing):
        """Return whether a thing is one that is at least 0 and not always 0."""
        return thing >= self.count and not self.fixed[thing - self.count]

    def pivot(self, thing, column):
        """Let a thing inside and the outside one of a column change places."""
        lead = self.rows[thing]
        rows = {
            other: exchanged(row, lead, column, self.bottom) for other, row in self.rows.items() if other != thing}
        sign = 1 if lead[column] > 0 else -1
        fresh = [-sign * own for own in lead]
        fresh[column] = sign * self.bottom
        rows[self.outside[column]] = fresh
        self.rows = rows
        self.outside[column] = thing
        self.bottom = abs(lead[column])

    def solve(self):
        """Bring all pairs to where they hold and return None; if they hold nowhere, return shares that show it."""
        shares = self.put_fixed_outside()
        if shares is not None:
            return shares
        self.take_unknowns_inside()
        return self.raise_pairs()

    def put_fixed_outside(self):
        """Put the "eq" pairs outside, where they are 0; return shares if one is another number."""
        for number, is_fixed in enumerate(self.fixed):
            thing = self.count + number
            if is_fixed and thing in self.rows:
                column = self.way_out(self.rows[thing])
                if column is not None:
                    self.pivot(thing, column)
                elif self.rows[thing][-2] != 0:
                    return self.shares_that_show(thing)
        return None

    def way_out(self, row):
        """Return the column to be exchanged with the row of an "eq" pair, None if it has "eq" pairs alone."""
        columns = []
        for column, thing in enumerate(self.outside):
            if row[column] != 0 and (thing < self.count or self.is_bounded(thing)):
                columns.append((thing >= self.count, abs(row[column]), column))
        return min(columns)[2] if columns else None

    def take_unknowns_inside(self):
        """Take the unknowns inside for pairs in which they are; one that stays outside is in no pair."""
        for column, unknown in enumerate(list(self.outside)):
            if unknown < self.count:
                things = []
                for thing, row in self.rows.items():
                    if self.is_bounded(thing) and row[column] != 0:
                        things.append((abs(row[column]), thing))
                if things:
                    self.pivot(min(things)[1], column)

    def raise_pairs(self):
        """Bring all pairs to at least 0, the sum of those now outside staying small; return shares as solve does."""
        costs = [self.bottom if self.is_bounded(thing) else 0 for thing in self.outside]
        self.rows[COST] = costs + [0, 0]
        thing, column = self.next_raise()
        while column is not None:
            self.pivot(thing, column)
            thing, column = self.next_raise()
        self.rows.pop(COST)
        return None if thing is None else self.shares_that_show(thing)

    def next_raise(self):
        """Return (thing, column): the pair below 0 to be exchanged, and for what; None for what there is not."""
        cost = self.rows[COST]
        best = None
        for thing, row in self.rows.items():
            if self.is_bounded(thing) and (row[-2], row[-1]) < (0, 0):
                column = self.cheapest(row, cost)
                if column is None:
                    return thing, None
                gain = (-row[-2] * cost[column], -row[-1] * cost[column], row[column])
                if is_better(gain, thing, best):
                    best = (gain, thing, column)
        return (None, None) if best is None else (best[1], best[2])

    def cheapest(self, row, cost):
        """Return the column whose outside thing raises that of a row at the least cost, None if none does."""
        best = None
        for column, thing in enumerate(self.outside):
            if row[column] > 0 and self.is_bounded(thing):
                gain = (-cost[column], 0, row[column])
                if is_better(gain, thing, best):
                    best = (gain, thing, column)
        return None if best is None else best[2]

    def climb(self, row):
        """Make the value of a ROW great while all pairs hold, as they do now.

        Return None where it is greatest, or the column whose outside thing lets it grow without end.
        """
        self.rows[GOAL] = self.told(row)
        thing, column = self.next_climb()
        while thing is not None:
            self.pivot(thing, column)
            thing, column = self.next_climb()
        return column

    def told(self, row):
        """Return the integers that tell the value of a ROW times its bottom."""
        told = [0] * len(self.outside) + [row[-2] * self.bottom, 0]
        for unknown, weight in enumerate(row[:-2]):
            if unknown in self.rows:
                told = [own + weight * other for own, other in zip(told, self.rows[unknown])]
            else:
                told[self.outside.index(unknown)] += weight * self.bottom
        return told

    def next_climb(self):
        """Return (thing, column): the pair that stops the best climb, and its column; None for what there is not."""
        goal = self.rows[GOAL]
        best = None
        for column, outer in enumerate(self.outside):
            if outer < self.count and goal[column] != 0:
                return None, column
            if goal[column] > 0 and self.is_bounded(outer):
                thing = self.first_stop(column)
                if thing is None:
                    return None, column
                row = self.rows[thing]
                gain = (row[-2] * goal[column], row[-1] * goal[column], -row[column])
                if is_better(gain, outer, best):
                    best = (gain, outer, thing, column)
        return (None, None) if best is None else (best[2], best[3])

    def first_stop(self, column):
        """Return the pair that first comes down to 0 as the outside thing of a column grows, None if none does."""
        best = None
        for thing, row in self.rows.items():
            if row[column] < 0 and self.is_bounded(thing):
                gain = (-row[-2], -row[-1], -row[column])
                if is_better(gain, thing, best):
                    best = (gain, thing)
        return None if best is None else best[1]

    def take_pair(self, word, row):
        """Take one more pair, behind all others; then solve brings it to where it holds, too."""
        told = self.told(row)
        if word == "gt":
            told[-1] -= self.bottom
        self.rows[self.count + len(self.fixed)] = told
        self.fixed.append(word == "eq")

    def deny(self, number, sign):
        """Put the denial ("gt", ROW times sign) in the place of a pair; that of "gt" is ("ge", ROW times sign)."""
        thing = self.count + number
        self.fixed[number] = False
        if thing in self.rows:
            fresh = [sign * own for own in self.rows[thing]]
            fresh[-1] -= self.bottom
            self.rows[thing] = fresh
        else:
            column = self.outside.index(thing)
            self.rows = {other: turned(row, column, sign) for other, row in self.rows.items()}

    def drop(self, number):
        """Take a pair away."""
        thing = self.count + number
        if thing not in self.rows:
            column = self.outside.index(thing)
            things = []
            for other, row in self.rows.items():
                if other >= 0 and row[column] != 0:
                    things.append((other < self.count, abs(row[column]), other))
            self.pivot(min(things)[2], column)
        self.rows.pop(thing)

    def shares(self, row):
        """Return for each pair how often it is taken away in a row, as integers over bottom."""
        shares = [0] * len(self.fixed)
        for column, thing in enumerate(self.outside):
            if thing >= self.count:
                shares[thing - self.count] = -row[column]
        return shares

    def shares_that_show(self, thing):
        """Return for each pair an integer; so often taken, the pairs add up to the number that a thing cannot be."""
        row = self.rows[thing]
        shares = self.shares(row)
        shares[thing - self.count] = self.bottom
        return [-share for share in shares] if row[-2] > 0 else shares

    def point(self):
        """Return a POINT at which all pairs hold, as they do now."""
        top, bottom = 1, 1
        for thing, row in self.rows.items():
            if self.is_bounded(thing) and row[-2] * bottom + row[-1] * top < 0:
                top, bottom = row[-2], -row[-1]
        return self.point_with(top, bottom)

    def edge(self):
        """Return the POINT to which that of point comes near with SMALL, at which "ge" holds for each "gt"."""
        return self.point_with(0, 1)

    def point_with(self, top, bottom):
        """Return the POINT where SMALL is top by bottom."""
        tops = []
        for unknown in range(self.count):
            row = self.rows.get(unknown, [0, 0])
            tops.append(row[-2] * bottom + row[-1] * top)
        return without_divisor(tops + [self.bottom * bottom])

    def direction(self, column):
        """Return integers along which the goal grows without end while all pairs hold."""
        outer = self.outside[column]
        sign = -1 if self.rows[GOAL][column] < 0 else 1
        steps = []
        for unknown in range(self.count):
            if unknown in self.rows:
                steps.append(sign * self.rows[unknown][column])
            else:
                steps.append(sign * self.bottom if unknown == outer else 0)
        return without_divisor(steps)

    def goal_weights(self, pairs, row):
        """Return the FRACTIONS with which the pairs add up to what climb found less the value of its ROW."""
        bottom = self.bottom * row[-1]
        return tuple([lowest(share * own[-1], bottom) for share, (_, own) in zip(self.shares(self.rows[GOAL]), pairs)])


def bar_of(pairs, shares):
    """Return the BAR of pairs that shares of them show."""
    weights = [share * row[-1] for share, (_, row) in zip(shares, pairs)]
    shared = shared_divisor(weights)
    return tuple([(weight // shared, 1) for weight in weights])
