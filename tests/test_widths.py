import unittest
from fractions import Fraction
from random import Random

from chance import as_fraction, some_formula, some_grid
from everyfont.counting import counting_rows
from everyfont.errors import Empty, NotFont, TooGreat
from everyfont.expressions import box_tops, name_row
from everyfont.families import check_family, family_font, family_pairs
from everyfont.grids import check_grid, columns_of, grid_names
from everyfont.never import check_never
from everyfont.numbers import compared
from everyfont.rows import constant_row, row_added, row_minus
from everyfont.systems import first_false, holds_all
from everyfont.tops import top_joined, top_rows_at, top_value
from everyfont.widths import fits_grid, fits_paper, least_width, ruling, width_top
from wrong import Within, raised

A, B, C = ("sign", "a"), ("sign", "b"), ("sign", "c")
X, Y, GAP = ("wide", "a", 0), ("wide", "b", 0), ("gap", 0)


def family_of(grid, unknown=(), system=(), **numbers):
    """Return the FAMILY of a GRID with these unknowns, the other NAMES being 1, or what is told by their first words."""
    names = [name for name in grid_names(grid) if name not in unknown]
    return check_family((tuple(sorted(unknown)), tuple((name, as_fraction(Fraction(numbers.get(name[0], 1)))) for name in names), system))


# a above b: the column is as wide as the greater one, and gap.
COLUMN = (1, 2, ((0, 1, 0, 1, A), (0, 1, 1, 2, B)))
# a beside b.
SIDE = (2, 1, ((0, 1, 0, 1, A), (1, 2, 0, 1, B)))
# c over both columns above these.
OVER = (2, 2, ((0, 1, 1, 2, A), (1, 2, 1, 2, B), (0, 2, 0, 1, C)))
BOX = (("ge", (-1, 0, 3, 1)), ("ge", (0, -1, 5, 1)))


class ByHand(unittest.TestCase):
    def test_width_top(self):
        self.assertEqual(width_top(COLUMN, family_of(COLUMN, (X, Y))), ((0, 1, 1, 1), (1, 0, 1, 1)))
        self.assertEqual(width_top(family=family_of(COLUMN, (X, Y)), grid=COLUMN), ((0, 1, 1, 1), (1, 0, 1, 1)))
        self.assertEqual(width_top(SIDE, family_of(SIDE, (X, Y))), ((1, 1, 2, 1),))
        # NAMES: gap, x, y.
        self.assertEqual(width_top(SIDE, family_of(SIDE, (X, Y, GAP))), ((2, 1, 1, 0, 1),))
        self.assertEqual(width_top(OVER, family_of(OVER, (X, Y), wide=9)), ((0, 0, 10, 1), (1, 1, 2, 1)))
        # Where a is always wider, b does not count.
        self.assertEqual(width_top(COLUMN, family_of(COLUMN, (X, Y), (("gt", (1, -1, 0, 1)),))), ((1, 0, 1, 1),))
        # Where 9 + 1 is always wider.
        self.assertEqual(width_top(OVER, family_of(OVER, (X, Y), BOX, wide=9)), ((0, 0, 10, 1),))
        self.assertEqual(width_top(OVER, family_of(OVER, (X, Y), BOX, wide=7)), ((0, 0, 8, 1), (1, 1, 2, 1)))

    def test_grids_without_cells(self):
        grid = (3, 2, ())
        self.assertEqual(width_top(grid, family_of(grid)), ((0, 1),))
        self.assertEqual(width_top(grid, family_of(grid, (GAP,))), ((0, 0, 1),))
        self.assertEqual(least_width(grid, family_of(grid, (GAP,))), ("most", (0, 1), True))
        self.assertIs(fits_grid(grid, family_of(grid), (0, 1)), True)
        self.assertIs(fits_grid(grid, family_of(grid), (-1, 1)), False)

    def test_columns_in_which_no_cell_ends(self):
        grid = (4, 1, ((1, 3, 0, 1, A),))
        self.assertEqual(width_top(grid, family_of(grid, (X,))), ((1, 1, 1),))

    def test_tops_of_cells(self):
        half = ("over", A, B)
        grid = (2, 1, ((0, 1, 0, 1, half), (1, 2, 0, 1, half)))
        family = family_of(grid, (("wide", "a", 1), ("wide", "b", 1)))
        # Twice max(x, y) + 3; x + y + 6 does not count.
        self.assertEqual(width_top(grid, family), ((0, 2, 6, 1), (2, 0, 6, 1)))

    def test_least_width(self):
        for grid, system, told in (
                (COLUMN, BOX, ("most", (6, 1), True)), (COLUMN, (), ("endless",)), (COLUMN, BOX[:1], ("endless",)), (SIDE, BOX, ("most", (10, 1), True)),
                (COLUMN, (BOX[0], ("gt", BOX[1][1])), ("most", (6, 1), False)), (SIDE, (("gt", BOX[0][1]), BOX[1]), ("most", (10, 1), False)),
                (COLUMN, (("gt", (-1, 0, 5, 1)), BOX[1]), ("most", (6, 1), True)), (SIDE, (("ge", (-1, -2, 4, 1)),), ("most", (6, 1), False))):
            with self.subTest(grid, system=system):
                family = family_of(grid, (X, Y), system)
                self.assertEqual(least_width(grid, family), told)
                self.assertEqual(least_width(family=family, grid=grid), told)
        self.assertEqual(least_width(SIDE, family_of(SIDE, wide=4)), ("most", (10, 1), True))

    def is_fitting(self, grid, family, width, told):
        """Hold both answers, and the PAPER, against what was worked out by hand."""
        with self.subTest(grid, family=family, width=width):
            self.assertIs(fits_grid(grid, family, width), told)
            self.assertIs(fits_grid(width=width, family=family, grid=grid), told)
            paper = fits_paper(grid, family, width)
            self.assertEqual(fits_paper(width=width, family=family, grid=grid), paper)
            self.assertEqual(paper[0], "means" if told else "point")
            count, pairs = len(family[0]), family_pairs(family)
            self.assertIs(check_never(count, pairs, width_top(grid, family), (constant_row(count, width),), paper), told)
            if not told:
                self.assertTrue(holds_all(count, pairs, paper[1]))
                self.assertGreater(compared(columns_of(grid, family_font(family, paper[1]))[-1], width), 0)

    def test_fits(self):
        met, near = family_of(COLUMN, (X, Y), BOX), family_of(COLUMN, (X, Y), (BOX[0], ("gt", BOX[1][1])))
        for family in (met, near):
            for width, told in (((6, 1), True), ((7, 1), True), ((61, 10), True), ((59, 10), False), ((0, 1), False), ((-3, 1), False)):
                self.is_fitting(COLUMN, family, width, told)
        self.is_fitting(COLUMN, family_of(COLUMN, (X, Y)), (10 ** 30, 1), False)
        self.is_fitting(SIDE, family_of(SIDE, wide=4), (10, 1), True)
        self.is_fitting(SIDE, family_of(SIDE, wide=4), (99, 10), False)

    def test_fonts_that_are_not_inner(self):
        # Only at the rim, x = 3, the width is 4.
        family = family_of(COLUMN, (X, Y), (BOX[0], ("ge", (0, -1, 1, 1))))
        self.is_fitting(COLUMN, family, (4, 1), True)
        self.is_fitting(COLUMN, family, (399, 100), False)

    def test_ruling(self):
        family = family_of(COLUMN, (X, Y), BOX)
        pairs = family_pairs(family)
        # x at most 3 and y at most 5: both count, y first.
        found = (pairs + (("ge", (-1, 1, 0, 1)),), pairs + (("ge", (1, -1, 0, 1)),))
        self.assertEqual(ruling(COLUMN, family), found)
        self.assertEqual(ruling(family=family, grid=COLUMN), found)
        self.assertEqual(ruling(SIDE, family_of(SIDE, (X, Y), BOX)), (pairs,))
        self.assertEqual(ruling(SIDE, family_of(SIDE)), ((),))
        three = (1, 3, ((0, 1, 0, 1, A), (0, 1, 1, 2, B), (0, 1, 2, 3, C)))
        family = family_of(three, (X, Y), BOX)
        pairs = family_pairs(family)
        # 2, y + 1, x + 1.
        self.assertEqual(ruling(three, family), (
            pairs + (("ge", (0, -1, 1, 1)), ("ge", (-1, 0, 1, 1))), pairs + (("ge", (0, 1, -1, 1)), ("ge", (-1, 1, 0, 1))),
            pairs + (("ge", (1, 0, -1, 1)), ("ge", (1, -1, 0, 1)))))


class Wrong(unittest.TestCase):
    functions = (
        width_top, least_width, ruling, lambda grid, family: fits_grid(grid, family, (1, 1)), lambda grid, family: fits_paper(grid, family, (1, 1)))

    def test_names_that_lack(self):
        for function in self.functions:
            nowhere = family_of(COLUMN, (X,), (("gt", (-1, 0, 1)),))
            for family in (family_of(COLUMN), nowhere):
                self.assertEqual(raised(self, NotFont, function, OVER, family).name, ("deep", "c", 0))
            self.assertEqual(raised(self, NotFont, function, (1, 1, ()), ((), (), ())).name, GAP)
            fixed = tuple(pair for pair in family_of(COLUMN)[1] if pair[0] != GAP)
            self.assertEqual(raised(self, NotFont, function, COLUMN, ((), fixed, ())).name, GAP)

    def test_families_without_inner_fonts(self):
        for system in ((("gt", (-1, 0, 1)),), (("eq", (1, -2, 1)),), (("ge", (1, -2, 1)), ("ge", (-1, 2, 1))), (("ge", (0, 0, 1)),)):
            for function in self.functions:
                raised(self, Empty, function, COLUMN, family_of(COLUMN, (X,), system))
                raised(self, Empty, function, (1, 1, ()), family_of((1, 1, ()), (GAP,), system))

    def test_too_many_rows_of_a_cell(self):
        many = ("row", *(("table", ((("sign", letter),), (C,))) for letter in "defghiklm"))
        grid = (2, 1, ((0, 1, 0, 1, A), (1, 2, 0, 1, many)))
        family = family_of(grid, [("wide", letter, 0) for letter in "defghiklm"])
        for function in self.functions:
            self.assertEqual(raised(self, TooGreat, function, grid, family).most, 400)

    def stacked(self, letters):
        """Return a GRID of columns, each with one of these SIGNS above c, and its FAMILY; 2 ROWS for each column."""
        cells = []
        for number, letter in enumerate(letters):
            cells += [(number, number + 1, 0, 1, ("sign", letter)), (number, number + 1, 1, 2, C)]
        grid = check_grid((len(letters), 2, tuple(cells)))
        return grid, family_of(grid, [("wide", letter, 0) for letter in letters])

    def test_too_many_rows_for_a_boundary(self):
        # 256 ROWS for 8 columns, 512 for 9.
        grid, family = self.stacked("defghikl")
        with Within(self, 30):
            self.assertEqual(len(width_top(grid, family)), 256)
        grid, family = self.stacked("defghiklm")
        for function in self.functions:
            with Within(self, 30):
                self.assertEqual(raised(self, TooGreat, function, grid, family).most, 400)

    def test_four_hundred_rows(self):
        def column(*cells):
            return ("table", tuple((cell,) for cell in cells))

        a, b, c, d, e, f, g, h, i, j, k = [("sign", letter) for letter in "abcdefghijk"]
        # 4 by 4 by 5 ROWS, k being fixed.
        eighty = ("row", column(a, b, c, k), column(d, e, f, k), column(g, h, i, j, k))
        four = column(("row", a, a), ("row", b, b), ("row", c, c), ("row", k, k))
        # 80 by 4 of both, and the 80 of the boundary ahead.
        cells = ((0, 1, 0, 1, eighty), (1, 2, 0, 1, four))
        unknown = [("wide", letter, 0) for letter in "abcdefghij"]
        grid = check_grid((2, 2, cells))
        family = family_of(grid, unknown)
        self.assertEqual([len(box_tops(family, cell[4])[0]) for cell in cells], [80, 4])
        with Within(self, 30):
            self.assertLessEqual(len(width_top(grid, family)), 320)
        # One more, of a cell that is 1 wide.
        grid = check_grid((2, 2, cells + ((0, 2, 1, 2, k),)))
        for function in self.functions:
            with Within(self, 30):
                self.assertEqual(raised(self, TooGreat, function, grid, family).most, 400)


class ByChance(unittest.TestCase):
    def test_against_columns_and_all_sums(self):
        chance = Random(3)
        seen = ruled = 0
        for _ in range(60):
            grid = check_grid(some_grid(chance, 6, lambda chance: some_formula(chance, chance.randint(1, 3))))
            names = list(grid_names(grid))
            unknown = tuple(sorted(chance.sample(names, chance.randint(0, min(4, len(names))))))
            system = []
            for number in range(len(unknown)):
                unit = [int(own == number) for own in range(len(unknown))]
                if chance.random() < 0.7:
                    system.append((chance.choice(("ge", "gt")), (*(-own for own in unit), chance.randint(1, 9), 1)))
            family = family_of(grid, unknown, tuple(system))
            count, pairs = len(unknown), family_pairs(family)
            try:
                top = width_top(grid, family)
                whole = self.all_sums(grid, family)
            except TooGreat:
                continue
            self.assertEqual(top, counting_rows(count, pairs, whole))
            found = least_width(grid, family)
            systems = ruling(grid, family)
            self.assertEqual(len(systems), len(top))
            for _ in range(10):
                point = tuple(chance.randint(1, 9) for _ in unknown) + (1,)
                if first_false(pairs, point) is not None:
                    continue
                width = columns_of(grid, family_font(family, point))[-1]
                self.assertEqual(top_value(top, point), width)
                self.assertEqual(top_value(whole, point), width)
                if found != ("endless",):
                    self.assertLessEqual(compared(width, found[1]), 0)
                holding = tuple(number for number, own in enumerate(systems) if first_false(own, point) is None)
                self.assertEqual(holding, top_rows_at(top, point))
                seen += 1
            ruled += len(systems) > 1
            for number, own in enumerate(systems):
                self.assertEqual(own, pairs + tuple(("ge", row_minus(top[number], row)) for row in top if row != top[number]))
            if found != ("endless",):
                self.assertIs(fits_grid(grid, family, found[1]), True)
                self.assertIs(fits_grid(grid, family, as_fraction(Fraction(*found[1]) - Fraction(1, 10))), False)
        self.assertGreater(min(seen, ruled), 10)

    def all_sums(self, grid, family):
        """Return the TOP of all sums along chains, those that do not count among them."""
        count = len(family[0])
        tops = [(constant_row(count, (0, 1)),)]
        for boundary in range(1, grid[0] + 1):
            top = tops[-1]
            for first, last, _, _, formula in grid[2]:
                if last == boundary:
                    rows = {
                        row_added(row_added(row, own), name_row(family, GAP)) for row in tops[first] for own in box_tops(family, formula)[0]}
                    top = top_joined(top, tuple(sorted(rows)))
            tops.append(top)
        return tops[-1]


if __name__ == "__main__":
    unittest.main()
