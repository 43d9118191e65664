"""GRIDS: cells that span columns and rows, and the least and greatest places of these in a FONT."""

from everyfont.boxes import box_of, sorted_items
from everyfont.errors import NotFormula, NotGrid, Unlike
from everyfont.fonts import needed, number_of, numbers_for
from everyfont.formulas import MOST_WORDS, check_formula, words_of
from everyfont.numbers import ZERO, added, compared, greatest_of, is_int, minus, opposite

MOST_LINES = 12
MOST_CELLS = 24

GAP = ("gap", 0)


def is_span(first, last, most):
    """Return whether any values are integers with 0 <= first < last <= most."""
    return is_int(first) and is_int(last) and 0 <= first < last <= most


def is_number_of_lines(value):
    """Return whether any value is a number of columns or rows."""
    return is_int(value) and 1 <= value <= MOST_LINES


def is_cell(columns, rows, value):
    """Return whether any value is a cell within so many columns and rows."""
    if not isinstance(value, tuple) or len(value) != 5:
        return False
    if not is_span(value[0], value[1], columns) or not is_span(value[2], value[3], rows):
        return False
    try:
        check_formula(value[4])
    except NotFormula:
        return False
    return True


def check_grid(value):
    """Return any value that is a GRID."""
    if not isinstance(value, tuple) or len(value) != 3:
        raise NotGrid(None)
    columns, rows, cells = value
    if not is_number_of_lines(columns) or not is_number_of_lines(rows):
        raise NotGrid(None)
    if not isinstance(cells, tuple) or len(cells) > MOST_CELLS:
        raise NotGrid(None)
    words = 0
    for number, cell in enumerate(cells):
        if not is_cell(columns, rows, cell) or any([is_crossing(cell, ahead) for ahead in cells[:number]]):
            raise NotGrid(number)
        words += words_of(cell[4])
        if words > MOST_WORDS:
            raise NotGrid(number)
    return value


def is_crossing(cell, other):
    """Return whether two cells cover a field both."""
    return cell[0] < other[1] and other[0] < cell[1] and cell[2] < other[3] and other[2] < cell[3]


def grid_names(grid):
    """Return the ascending NAMES that the FORMULAS of a GRID need, and ("gap", 0)."""
    names = [GAP]
    for cell in grid[2]:
        names.extend(needed(cell[4]))
    return tuple(sorted(set(names)))


class Cells:
    """The cells of a GRID in a FONT: their BOXES, and how much of the columns' width each of them takes."""

    def __init__(self, grid, font):
        numbers_for(font, grid_names(grid))
        self.columns, self.rows, self.cells = grid
        self.gap = number_of(font, GAP)
        self.boxes = [box_of(cell[4], font) for cell in self.cells]
        self.takes = [added(box[0], self.gap) for box in self.boxes]

    def least_boundaries(self):
        """Return the list of the least column boundaries."""
        found = [ZERO]
        for boundary in range(1, self.columns + 1):
            places = [found[-1]]
            for cell, take in zip(self.cells, self.takes):
                if cell[1] == boundary:
                    places.append(added(found[cell[0]], take))
            found.append(greatest_of(places))
        return found

    def greatest_boundaries(self, width):
        """Return the list of the greatest column boundaries with the last one at a width."""
        if compared(width, self.least_boundaries()[-1]) < 0:
            raise Unlike()
        # Counted back from the width, the greatest ones are as the least ones are, counted from 0.
        back = {self.columns: ZERO}
        for boundary in reversed(range(1, self.columns)):
            places = [back[boundary + 1]]
            for cell, take in zip(self.cells, self.takes):
                if cell[0] == boundary:
                    places.append(added(back[cell[1]], take))
            back[boundary] = greatest_of(places)
        return [ZERO] + [minus(width, back[boundary]) for boundary in range(1, self.columns + 1)]

    def least_places(self):
        """Return the lists of the least tops and of the least base lines of rows."""
        tops, bases = [ZERO], []
        for row in range(self.rows):
            highs, ends = [ZERO], []
            for cell, box in zip(self.cells, self.boxes):
                if cell[2] == row:
                    highs.append(box[1])
            bases.append(added(tops[row], greatest_of(highs)))
            for cell, box in zip(self.cells, self.boxes):
                if cell[3] == row + 1:
                    ends.append(added(added(bases[cell[2]], box[2]), self.gap))
            tops.append(greatest_of([bases[row]] + ends))
        return tops, bases


def columns_of(grid, font):
    """Return the least column boundaries."""
    return tuple(Cells(grid, font).least_boundaries())


def rows_of(grid, font):
    """Return the pair of the tuple of all tops of rows and that of all their base lines, the least ones."""
    tops, bases = Cells(grid, font).least_places()
    return (tuple(tops), tuple(bases))


def last_columns(grid, font, width):
    """Return the greatest column boundaries whose last one is a width."""
    return tuple(Cells(grid, font).greatest_boundaries(width))


def slack(grid, font, width, cell):
    """Return how far the left end of the cell with this number can be moved within a width."""
    cells = Cells(grid, font)
    first, last = grid[2][cell][:2]
    most = minus(cells.greatest_boundaries(width)[last], cells.takes[cell])
    return minus(most, cells.least_boundaries()[first])


def grid_items(grid, font):
    """Return the sorted ITEMS of all cells, each at the least places."""
    cells = Cells(grid, font)
    lefts, bases = cells.least_boundaries(), cells.least_places()[1]
    items = []
    for cell, box in zip(cells.cells, cells.boxes):
        left, base = lefts[cell[0]], opposite(bases[cell[2]])
        items.extend([(added(left, right), added(base, up), thing) for right, up, thing in box[3]])
    return sorted_items(items)


def grid_size(grid, font):
    """Return the last column boundary and the last row place."""
    cells = Cells(grid, font)
    return (cells.least_boundaries()[-1], cells.least_places()[0][-1])
