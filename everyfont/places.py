"""Where the parts of a FORMULA are in its BOX."""

from everyfont.boxes import layout_of, spots_of
from everyfont.formulas import found_at, paths_of
from everyfont.numbers import ZERO, added, minus


def spot_at(formula, font, path):
    """Return (X, Y, Layout) of the part at any value as PATH."""
    layout = layout_of(formula, 0, font)
    found_at(formula, path)
    return spots_of(layout, ZERO, ZERO)[paths_of(formula).index(path)]


def place_of(formula, font, path):
    """Return (X, Y), where the part at any value as PATH is."""
    return spot_at(formula, font, path)[:2]


def sides_of(formula, font, path):
    """Return (LEFT, RIGHT, BASE, TOP, BOTTOM) of the part at any value as PATH."""
    left, base, layout = spot_at(formula, font, path)
    return (left, added(left, layout.wide), base, added(base, layout.high), minus(base, layout.deep))
