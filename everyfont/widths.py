"""How wide a GRID is in all fonts of a FAMILY at once."""

from everyfont.above import counting_in, inner_table
from everyfont.errors import Empty
from everyfont.expressions import box_tops, name_row
from everyfont.families import family_pairs
from everyfont.grids import GAP, grid_names
from everyfont.never import never_paper
from everyfont.numbers import ZERO
from everyfont.rows import constant_row, row_minus
from everyfont.sizes import Size, greatest_paper_on, what_shows
from everyfont.tops import check_few, top_added, top_moved


def width_top(grid, family):
    """Return the TOP of the ROWS that count of the last column boundary."""
    for name in grid_names(grid):
        name_row(family, name)
    table = inner_table(len(family[0]), family_pairs(family))
    if table is None:
        raise Empty()
    gap = name_row(family, GAP)
    takes = [top_moved(box_tops(family, cell[4])[0], gap) for cell in grid[2]]
    tops = [(constant_row(table.count, ZERO),)]
    for boundary in range(1, grid[0] + 1):
        rows = {row: True for row in tops[-1]}
        for cell, take in zip(grid[2], takes):
            if cell[1] == boundary:
                for row in top_added(tops[cell[0]], take):
                    rows[row] = True
                check_few(rows)
        tops.append(counting_in(table, tuple(sorted(rows))))
    return tops[-1]


def least_width(grid, family):
    """Return the least width that the last boundary exceeds in no font of a FAMILY, as greatest_size does."""
    size = Size(family, width_top(grid, family))
    return what_shows(size, "most", greatest_paper_on(size))


def fits_grid(grid, family, width):
    """Return whether the last boundary is at most a width in all fonts of a FAMILY."""
    return fits_paper(grid, family, width)[0] == "means"


def fits_paper(grid, family, width):
    """Return a PAPER on what fits_grid tells."""
    top = width_top(grid, family)
    count = len(family[0])
    return never_paper(count, family_pairs(family), top, (constant_row(count, width),))


def ruling(grid, family):
    """Return for each ROW of width_top the SYSTEM of the fonts in which it is the width."""
    top = width_top(grid, family)
    pairs = family_pairs(family)
    found = []
    for number, row in enumerate(top):
        others = top[:number] + top[number + 1:]
        found.append(pairs + tuple([("ge", row_minus(row, other)) for other in others]))
    return tuple(found)
