"""The numbers of all parts of a FORMULA, as the document's STEPS tell them, with Python's fractions.

They are told there in other words than the BOXES are, so that each can be held against the other.
"""

from fractions import Fraction
from itertools import accumulate


def parts_with_ways(formula, level):
    """Return (way, part, its level) for the parts of a FORMULA at a level."""
    word = formula[0]
    if word == "sign":
        return []
    if word == "table":
        return [((1, row, column), cell, level) for row, cells in enumerate(formula[1]) for column, cell in enumerate(cells)]
    first = 2 if word in ("under", "upper", "limits") else 1
    raised = {"over": 1, "high": 2, "low": 2, "both": 2, "under": 2, "upper": 2, "limits": 2}.get(word, 99)
    return [((place,), formula[place], level + (place >= raised)) for place in range(first, len(formula))]


class Measured:
    """W, H, D of a FORMULA, and X, Y of each of its parts by the way to it."""

    def __init__(self, formula, level, numbers):
        self.formula, self.level, self.numbers = formula, level, numbers
        self.ways, self.parts = [], []
        for way, part, own_level in parts_with_ways(formula, level):
            self.ways.append(way)
            self.parts.append(Measured(part, own_level, numbers))
        self.places = []
        getattr(self, formula[0])(*self.parts)

    def __getattr__(self, word):
        return self.numbers[(word, self.level)]

    def named(self):
        return (self.numbers[(word, self.formula[1], self.level)] for word in ("wide", "high", "deep"))

    def halves(self):
        return [self.W / 2 - part.W / 2 for part in self.parts]

    def sign(self):
        self.W, self.H, self.D = self.named()

    def row(self, *parts):
        between = self.space if len(parts) > 1 else 0
        self.W = sum(part.W for part in parts) + (len(parts) - 1) * between
        self.H, self.D = max(part.H for part in parts), max(part.D for part in parts)
        self.places = [(sum(part.W for part in parts[:k]) + k * between, 0) for k in range(len(parts))]

    def over(self, f, g):
        top = max(self.rise, self.axis + self.rule + self.gap + f.D)
        bottom = max(self.fall, self.gap + g.H - self.axis)
        self.W, self.H, self.D = max(f.W, g.W) + 2 * self.gap, top + f.H, bottom + g.D
        self.places = list(zip(self.halves(), (top, -bottom)))

    def root(self, f):
        self.W, self.H, self.D = self.rule + 2 * self.gap + f.W, f.H + self.gap + self.rule, f.D + self.gap
        self.places = [(self.rule + self.gap, 0)]

    def high(self, f, g):
        up = max(self.rise, f.H - self.rise)
        self.W, self.H, self.D = f.W + g.W, max(f.H, up + g.H), max(f.D, g.D - self.rise)
        self.places = [(0, 0), (f.W, up)]

    def low(self, f, g):
        down = max(self.fall, f.D)
        self.W, self.H, self.D = f.W + g.W, max(f.H, g.H - self.fall), max(f.D, down + g.D)
        self.places = [(0, 0), (f.W, -down)]

    def both(self, f, g, h):
        down, up = max(self.fall, f.D), max(self.rise, f.H - self.rise)
        self.W = f.W + max(g.W, h.W)
        self.H, self.D = max(f.H, g.H - self.fall, up + h.H), max(f.D, down + g.D, h.D - self.rise)
        self.places = [(0, 0), (f.W, -down), (f.W, up)]

    def under(self, g):
        wide, high, deep = self.named()
        down = max(self.fall, deep + self.gap + g.H)
        self.W, self.H, self.D = max(wide, g.W), high, down + g.D
        self.places = [(self.halves()[0], -down)]

    def upper(self, g):
        wide, high, deep = self.named()
        up = max(self.rise, high + self.gap + g.D)
        self.W, self.H, self.D = max(wide, g.W), up + g.H, deep
        self.places = [(self.halves()[0], up)]

    def limits(self, g, h):
        wide, high, deep = self.named()
        down, up = max(self.fall, deep + self.gap + g.H), max(self.rise, high + self.gap + h.D)
        self.W, self.H, self.D = max(wide, g.W, h.W), up + h.H, down + g.D
        self.places = list(zip(self.halves(), (-down, up)))

    def fence(self, f):
        self.W, self.H, self.D = 2 * self.rule + 2 * self.gap + f.W, f.H + self.gap, f.D + self.gap
        self.places = [(self.rule + self.gap, 0)]

    def bar(self, f):
        self.W, self.H, self.D = f.W, f.H + self.gap + self.rule, f.D
        self.places = [(0, 0)]

    def table(self, *cells):
        many = len(self.formula[1][0])
        rows = [cells[k:k + many] for k in range(0, len(cells), many)]
        wides = [max(row[k].W for row in rows) for k in range(many)]
        highs, deeps = [max(cell.H for cell in row) for row in rows], [max(cell.D for cell in row) for row in rows]
        height = sum(highs) + sum(deeps) + (len(rows) - 1) * self.gap
        between = self.space + self.gap if many > 1 else 0
        self.W = 2 * self.rule + 2 * self.gap + sum(wides) + (many - 1) * between
        self.H, self.D = max(Fraction(0), self.axis + height / 2), max(Fraction(0), height / 2 - self.axis)
        lefts = [self.rule + self.gap + sum(wides[:k]) + k * between for k in range(many)]
        ahead = [0, *accumulate(high + deep + self.gap for high, deep in zip(highs, deeps))]
        for k, row in enumerate(rows):
            base = self.axis + height / 2 - ahead[k] - highs[k]
            self.places.extend((left + wide / 2 - cell.W / 2, base) for left, wide, cell in zip(lefts, wides, row))

    def told(self, path, left, base):
        """Return (PATH, level, W, H, D, LEFT, BASE) for it and all in it, itself being at (left, base)."""
        found = [(path, self.level, self.W, self.H, self.D, left, base)]
        for way, part, (x, y) in zip(self.ways, self.parts, self.places):
            found.extend(part.told(path + way, left + x, base + y))
        return found


def measured(formula, font, level=0):
    """Return (PATH, level, W, H, D, LEFT, BASE) for all parts of a FORMULA in a FONT."""
    numbers = {name: Fraction(*number) for name, number in font}
    return Measured(formula, level, numbers).told((), Fraction(0), Fraction(0))
