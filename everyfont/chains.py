"""Chains of a GRID's cells behind one another: no column boundary is less than their length."""

from everyfont.errors import NotPaper
from everyfont.grids import Cells
from everyfont.numbers import added, is_int, total


def longest_chain(grid, font, boundary):
    """Return a chain to a boundary whose length is the least boundary."""
    cells = Cells(grid, font)
    places = cells.least_boundaries()
    chain = []
    while boundary > 0:
        number = chain_end(cells, places, boundary)
        if number is None:
            boundary -= 1
        else:
            chain.append(number)
            boundary = cells.cells[number][0]
    return tuple(reversed(chain))


def chain_end(cells, places, boundary):
    """Return the number of the first cell that ends at a boundary and tells its place, None if there is none."""
    for number, cell in enumerate(cells.cells):
        if cell[1] == boundary and added(places[cell[0]], cells.takes[number]) == places[boundary]:
            return number
    return None


def check_chain(grid, font, boundary, chain):
    """Return the length of any value that is a chain to a boundary."""
    cells = Cells(grid, font)
    if not is_chain(cells.cells, boundary, chain):
        raise NotPaper(())
    return total([cells.takes[number] for number in chain])


def is_chain(cells, boundary, value):
    """Return whether any value is a chain to a boundary."""
    if not isinstance(value, tuple) or not all([is_int(number) and 0 <= number < len(cells) for number in value]):
        return False
    end = 0
    for number in value:
        first, last = cells[number][:2]
        if first < end:
            return False
        end = last
    return end <= boundary
