"""A further unknown behind all others, the *height*, which is at least as great as the value of each of some ROWS."""

from everyfont.above import height, tops_of
from everyfont.points import without_divisor
from everyfont.simplex import Table


def lifted_row(row):
    """Return a ROW as one that has the height, too."""
    return row[:-2] + (0,) + row[-2:]


def lifted(pairs):
    """Return pairs as ones whose ROWS have the height, too."""
    return [(word, lifted_row(row)) for word, row in pairs]


def over(row):
    """Return the pair that tells that the height is at least the value of a ROW."""
    return ("ge", tuple([-top for top in row[:-2]]) + (row[-1], -row[-2], row[-1]))


def less_height(row):
    """Return the ROW whose value is that of a ROW less the height."""
    return row[:-2] + (-row[-1],) + row[-2:]


def without_height(point):
    """Return a POINT without the height."""
    return without_divisor(point[:-2] + point[-1:])


class Heights:
    """Where pairs hold and the height is at least some ROWS, which are taken into account only as they get in the way.

    The pairs have to hold somewhere.
    """

    def __init__(self, count, pairs, rows):
        self.rows = rows
        self.tops, self.bottom = tops_of(rows)
        self.table = Table(count + 1, lifted(pairs))
        self.take(0)

    def take(self, number):
        """Take a ROW into account."""
        word, row = over(self.rows[number])
        self.table.take_pair(word, row)
        self.table.solve()

    def climb(self, row):
        """Make a ROW that has the height, too, great; return the column that lets it grow without end, or None."""
        while True:
            column = self.table.climb(row)
            steps = self.here() if column is None else [self.table.direction(column) + (0,)]
            number = self.in_the_way(steps)
            if number is None:
                return column
            self.take(number)

    def here(self):
        """Return where the unknowns and, the last one, 1 are now, and how often SMALL is in them, as integers."""
        zeros = [0, 0]
        found = [self.table.rows.get(unknown, zeros) for unknown in range(self.table.count)]
        return [[row[-2] for row in found] + [self.table.bottom], [row[-1] for row in found] + [0]]

    def in_the_way(self, steps):
        """Return the number of the ROW that is most above the height along steps, None if none is above it."""
        highest = None
        for number, tops in enumerate(self.tops):
            own = [height(tops, step[:-2] + step[-1:]) for step in steps]
            if highest is None or own > highest[0]:
                highest = (own, number)
        return highest[1] if highest[0] > [self.bottom * step[-2] for step in steps] else None
