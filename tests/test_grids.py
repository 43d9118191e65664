import unittest
from fractions import Fraction
from random import Random

from chance import some_font, some_grid
from everyfont.boxes import box_of, sorted_items
from everyfont.chains import check_chain, longest_chain
from everyfont.errors import NotFont, NotGrid, NotPaper, Unlike
from everyfont.formulas import words_of
from everyfont.grids import (
    check_grid, columns_of, grid_items, grid_names, grid_size, last_columns, rows_of, slack)
from everyfont.numbers import added
from wrong import ANYTHING, Within, deep_tuple, raised

A, B, C, D = ("sign", "a"), ("sign", "b"), ("sign", "c"), ("sign", "d")
GAP = ("gap", 0)


def font_of(gap=1, **sizes):
    """Return a FONT of signs with these (wide, high, deep) by their letters."""
    found = {GAP: gap}
    for letters, numbers in sizes.items():
        for word, number in zip(("wide", "high", "deep"), numbers):
            found[(word, letters, 0)] = number
    return tuple((name, (Fraction(number).numerator, Fraction(number).denominator)) for name, number in sorted(found.items()))


def whole(*numbers):
    return tuple((Fraction(number).numerator, Fraction(number).denominator) for number in numbers)


# a over both columns in row 0, b and c below; d beside c over two rows.
#   a a d
#   b c d
GRID = (3, 2, ((0, 2, 0, 1, A), (0, 1, 1, 2, B), (1, 2, 1, 2, C), (2, 3, 0, 2, D)))
FONT = font_of(a=(10, 3, 1), b=(4, 2, 2), c=(3, 5, 0), d=(6, 1, 9))


class CheckGrid(unittest.TestCase):
    def test_grids(self):
        for grid in (
                GRID, (1, 1, ()), (12, 12, ()), (12, 12, ((0, 12, 0, 12, A),)), (1, 1, ((0, 1, 0, 1, ("table", ((A, B), (B, A)))),)),
                (12, 2, tuple((column, column + 1, row, row + 1, A) for row in range(2) for column in range(12))),
                (2, 1, ((1, 2, 0, 1, A), (0, 1, 0, 1, A))),
                (2, 1, ((0, 1, 0, 1, ("row", *((A,) * 29))), (1, 2, 0, 1, ("row", *((A,) * 29))))),
                (1, 1, ((0, 1, 0, 1, ("row", *((A,) * 59))),))):
            self.assertIs(check_grid(grid), grid)
            self.assertIs(check_grid(value=grid), grid)

    def test_what_has_another_form(self):
        for value in ANYTHING + (
                [1, 1, ()], (1, 1), (1, 1, (), ()), (0, 1, ()), (13, 1, ()), (1, 0, ()), (1, 13, ()), (True, 1, ()), (1, True, ()), (1, 1, []),
                (1, 1, None), (1.0, 1, ()), ("1", 1, ()), (1, (1,), ()), (-1, 1, ()), (10 ** 3999, 1, ()), deep_tuple(100),
                (12, 12, tuple((column, column + 1, row, row + 1, A) for row in range(3) for column in range(12))[:25]),
                (12, 12, (None,) * 25)):
            with self.subTest(value):
                self.assertIsNone(raised(self, NotGrid, check_grid, value).number)

    def test_twenty_four_cells(self):
        cells = tuple((column, column + 1, row, row + 1, A) for row in range(3) for column in range(12))
        self.assertEqual(check_grid((12, 12, cells[:24])), (12, 12, cells[:24]))
        self.assertIsNone(raised(self, NotGrid, check_grid, (12, 12, cells[:25])).number)

    def test_wrong_cells(self):
        good = GRID[2]
        for number in range(4):
            for wrong in ANYTHING + (
                    good[number][:4], good[number] + (1,), list(good[number]), (2, 2, 0, 1, A), (2, 1, 0, 1, A), (-1, 1, 0, 1, A), (2, 4, 0, 1, A), (0, 1, 1, 1, A),
                    (0, 1, 1, 0, A), (0, 1, -1, 1, A), (0, 1, 1, 3, A), (False, 1, 0, 1, A), (0, True, 0, 1, A), (0, 1, 0, True, A), (0.0, 1, 0, 1, A),
                    (0, 1, 0, 1, None), (0, 1, 0, 1, ("sign", "A")), (0, 1, 0, 1, ["sign", "a"]), (0, 1, 0, 1, ("row", *((A,) * 60))),
                    (0, 1, 0, 1, deep_tuple(98)), (0, 10 ** 3999, 0, 1, A), (None, 1, 0, 1, A), (0, 1, (0,), 1, A)):
                cells = good[:number] + (wrong,) + good[number + 1:]
                self.assertEqual(raised(self, NotGrid, check_grid, (3, 2, cells)).number, number)
                self.assertEqual(raised(self, NotGrid, check_grid, (3, 2, cells[:number + 1] + (None,))).number, number)

    def test_fields_covered_twice(self):
        for cells, number in (
                (((0, 2, 0, 1, A), (1, 2, 0, 1, B)), 1), (((0, 1, 0, 2, A), (1, 2, 0, 1, B), (0, 2, 1, 2, C)), 2),
                (((0, 3, 0, 2, A), (2, 3, 1, 2, B), None), 1), (((1, 2, 0, 1, A), (1, 2, 0, 1, A)), 1), (((0, 1, 0, 1, A), (1, 2, 1, 2, A), (0, 2, 0, 2, A)), 2)):
            self.assertEqual(raised(self, NotGrid, check_grid, (3, 2, cells)).number, number)
        # Cells that touch cover no field both.
        self.assertEqual(check_grid((3, 2, ((0, 1, 0, 2, A), (1, 3, 0, 1, B), (1, 2, 1, 2, C), (2, 3, 1, 2, D)))), (
            3, 2, ((0, 1, 0, 2, A), (1, 3, 0, 1, B), (1, 2, 1, 2, C), (2, 3, 1, 2, D))))

    def test_too_many_words(self):
        thirty = ("row", *((A,) * 29))
        cells = ((0, 1, 0, 1, thirty), (1, 2, 0, 1, thirty), (2, 3, 0, 1, A))
        self.assertEqual(raised(self, NotGrid, check_grid, (3, 1, cells)).number, 2)
        self.assertEqual(raised(self, NotGrid, check_grid, (3, 1, cells[:1] + ((1, 2, 0, 1, ("row", *((A,) * 30))), None))).number, 1)
        self.assertEqual(words_of(thirty), 30)

    def test_nothing_changes(self):
        value = [1, 1, [[0, 1, 0, 1, ["sign", "a"]]]]
        raised(self, NotGrid, check_grid, value)
        self.assertEqual(value, [1, 1, [[0, 1, 0, 1, ["sign", "a"]]]])


class ByHand(unittest.TestCase):
    def test_names(self):
        signs = tuple((word, letters, 0) for word in ("deep", "high", "wide") for letters in "abcd")
        self.assertEqual(grid_names(GRID), tuple(sorted(signs + (GAP,))))
        self.assertEqual(grid_names(grid=(5, 5, ())), (GAP,))
        self.assertEqual(grid_names((1, 1, ((0, 1, 0, 1, ("bar", A)),))), (("deep", "a", 0), GAP, ("high", "a", 0), ("rule", 0), ("wide", "a", 0)))

    def test_least_boundaries(self):
        # b 4 + 1, then c 3 + 1: 9; a wants 10 + 1; d 6 + 1 behind it.
        self.assertEqual(columns_of(GRID, FONT), whole(0, 5, 11, 18))
        self.assertEqual(columns_of(font=FONT, grid=GRID), whole(0, 5, 11, 18))
        wide = font_of(a=(1, 3, 1), b=(4, 2, 2), c=(3, 5, 0), d=(6, 1, 9))
        self.assertEqual(columns_of(GRID, wide), whole(0, 5, 9, 16))
        self.assertEqual(columns_of(GRID, font_of("1/2", a=(1, 3, 1), b=("1/3", 2, 2), c=(3, 5, 0), d=(6, 1, 9))), whole(0, "5/6", "13/3", "65/6"))

    def test_row_places(self):
        # Row 0: a is 3 high, d 1; its base line is at 3. Below a 1 + 1: row 1 begins at 5. c is 5 high: 10.
        # Below b 2 + 1: 13; d ends 9 + 1 below 3: also 13.
        tops, bases = whole(0, 5, 13), whole(3, 10)
        self.assertEqual(rows_of(GRID, FONT), (tops, bases))
        self.assertEqual(rows_of(font=FONT, grid=GRID), (tops, bases))
        deep = font_of(a=(10, 3, 1), b=(4, 2, 2), c=(3, 5, 0), d=(6, 1, "23/2"))
        self.assertEqual(rows_of(GRID, deep), (whole(0, 5, "31/2"), bases))
        # A cell over two rows that ends in the first one's depth alone.
        shallow = font_of(a=(10, 3, 1), b=(4, 2, 2), c=(3, 5, 0), d=(6, 20, 0))
        self.assertEqual(rows_of(GRID, shallow), (whole(0, 22, 30), whole(20, 27)))

    def test_greatest_boundaries(self):
        self.assertEqual(last_columns(GRID, FONT, (18, 1)), whole(0, 7, 11, 18))
        self.assertEqual(last_columns(width=(20, 1), font=FONT, grid=GRID), whole(0, 9, 13, 20))
        self.assertEqual(last_columns(GRID, FONT, (37, 2)), whole(0, "15/2", "23/2", "37/2"))
        for width in ((17, 1), (0, 1), (-5, 1), (179, 10)):
            raised(self, Unlike, last_columns, GRID, FONT, width)
            raised(self, Unlike, slack, GRID, FONT, width, 0)

    def test_slack(self):
        # a from 0 to 11 - 11; b: 7 - 5 - 0; c: 11 - 4 - 5; d: 18 - 7 - 11.
        self.assertEqual([slack(GRID, FONT, (18, 1), cell) for cell in range(4)], list(whole(0, 2, 2, 0)))
        self.assertEqual([slack(cell=cell, width=(20, 1), font=FONT, grid=GRID) for cell in range(4)], list(whole(2, 4, 4, 2)))

    def test_columns_and_rows_in_which_no_cell_ends(self):
        grid = (4, 4, ((1, 3, 1, 3, A),))
        font = font_of(a=(10, 3, 1))
        self.assertEqual(columns_of(grid, font), whole(0, 0, 0, 11, 11))
        self.assertEqual(rows_of(grid, font), (whole(0, 0, 3, 5, 5), whole(0, 3, 3, 5)))
        self.assertEqual(last_columns(grid, font, (15, 1)), whole(0, 4, 15, 15, 15))
        self.assertEqual(slack(grid, font, (15, 1), 0), (4, 1))
        self.assertEqual(grid_items(grid, font), ((whole(0, -3) + (("sign", "a", 0),)),))
        self.assertEqual(grid_size(grid, font), whole(11, 5))

    def test_no_cells(self):
        for columns, rows in ((1, 1), (12, 12), (2, 3)):
            grid, font = (columns, rows, ()), font_of()
            self.assertEqual(columns_of(grid, font), whole(*[0] * (columns + 1)))
            self.assertEqual(rows_of(grid, font), (whole(*[0] * (rows + 1)), whole(*[0] * rows)))
            self.assertEqual(grid_items(grid, font), ())
            self.assertEqual(grid_size(grid, font), whole(0, 0))
            self.assertEqual(last_columns(grid, font, (0, 1)), whole(*[0] * (columns + 1)))
            self.assertEqual(last_columns(grid, font, (7, 2)), whole(0, *["7/2"] * columns))
            raised(self, Unlike, last_columns, grid, font, (-1, 1))

    def test_items(self):
        items = (
            whole(0, -10) + (("sign", "b", 0),), whole(0, -3) + (("sign", "a", 0),), whole(5, -10) + (("sign", "c", 0),), whole(11, -3) + (("sign", "d", 0),))
        self.assertEqual(grid_items(GRID, FONT), items)
        self.assertEqual(grid_items(font=FONT, grid=GRID), items)
        self.assertEqual(grid_size(GRID, FONT), whole(18, 13))
        self.assertEqual(grid_size(font=FONT, grid=GRID), whole(18, 13))

    def test_items_of_parts(self):
        grid = (2, 1, ((1, 2, 0, 1, ("bar", A)), (0, 1, 0, 1, A)))
        font = tuple(sorted(font_of(2, a=(3, 4, 1)) + ((("rule", 0), (1, 1)),)))
        # 3 + 2 wide; the bar's high is 4 + 2 + 1.
        self.assertEqual(grid_items(grid, font), (
            whole(0, -7) + (("sign", "a", 0),), whole(5, -7) + (("sign", "a", 0),), whole(5, -1) + (("rule", (3, 1), (1, 1)),)))
        self.assertEqual(grid_size(grid, font), whole(10, 10))


class Chains(unittest.TestCase):
    def test_longest(self):
        for boundary, chain, length in ((0, (), 0), (1, (1,), 5), (2, (0,), 11), (3, (0, 3), 18)):
            self.assertEqual(longest_chain(GRID, FONT, boundary), chain)
            self.assertEqual(longest_chain(boundary=boundary, font=FONT, grid=GRID), chain)
            self.assertEqual(check_chain(GRID, FONT, boundary, chain), (length, 1))
            self.assertEqual(check_chain(chain=chain, boundary=boundary, font=FONT, grid=GRID), (length, 1))
        wide = font_of(a=(1, 3, 1), b=(4, 2, 2), c=(3, 5, 0), d=(6, 1, 9))
        self.assertEqual(longest_chain(GRID, wide, 3), (1, 2, 3))
        self.assertEqual(longest_chain((3, 3, ()), font_of(), 3), ())
        grid = (4, 4, ((1, 3, 1, 3, A),))
        font = font_of(a=(10, 3, 1))
        self.assertEqual([longest_chain(grid, font, boundary) for boundary in range(5)], [(), (), (), (0,), (0,)])

    def test_chains_that_are_taken(self):
        for boundary, chain, length in (
                (3, (), 0), (3, (3,), 7), (3, (1,), 5), (3, (1, 3), 12), (3, (1, 2), 9), (3, (1, 2, 3), 16), (3, (2, 3), 11), (2, (2,), 4), (2, (1, 2), 9), (3, (0,), 11), (0, (), 0)):
            self.assertEqual(check_chain(GRID, FONT, boundary, chain), (length, 1))

    def test_what_is_no_chain(self):
        for boundary in range(4):
            for chain in ANYTHING + (
                    [], [1], (4,), (-1,), (True,), (False,), (1, 1), (2, 1), (3, 1), (0, 1), (0, 2), (1, 0), (3, 3), (1.0,), ((1,),), (1, None), "1", (10 ** 3999,),
                    deep_tuple(100)):
                if chain != ():
                    with self.subTest(boundary=boundary, chain=chain):
                        self.assertEqual(raised(self, NotPaper, check_chain, GRID, FONT, boundary, chain).path, ())
        for boundary, chain in ((0, (1,)), (1, (0,)), (1, (2,)), (2, (3,)), (2, (0, 3)), (1, (1, 2)), (2, (1, 2, 3))):
            self.assertEqual(raised(self, NotPaper, check_chain, GRID, FONT, boundary, chain).path, ())
        chain = [1, 2]
        raised(self, NotPaper, check_chain, GRID, FONT, 3, chain)
        self.assertEqual(chain, [1, 2])


class Wrong(unittest.TestCase):
    def test_names_that_lack(self):
        functions = (
            columns_of, rows_of, grid_items, grid_size, lambda grid, font: last_columns(grid, font, (-1, 1)), lambda grid, font: slack(grid, font, (-1, 1), 0),
            lambda grid, font: longest_chain(grid, font, 1), lambda grid, font: check_chain(grid, font, 1, None))
        for function in functions:
            for number, (name, _) in enumerate(FONT):
                fewer = FONT[:number] + FONT[number + 1:]
                self.assertEqual(raised(self, NotFont, function, GRID, fewer).name, name)
            self.assertEqual(raised(self, NotFont, function, GRID, ()).name, ("deep", "a", 0))
            self.assertEqual(raised(self, NotFont, function, GRID, FONT[2:]).name, ("deep", "a", 0))
        for function in functions[:4]:
            self.assertEqual(raised(self, NotFont, function, (1, 1, ()), ()).name, GAP)


class ByChance(unittest.TestCase):
    def as_numbers(self, fractions):
        return [Fraction(*number) for number in fractions]

    def test_places_and_chains(self):
        chance = Random(1)
        seen = 0
        for _ in range(200):
            grid = check_grid(some_grid(chance))
            font = some_font(chance, grid_names(grid))
            columns, rows, cells = grid
            boxes = [[Fraction(*number) for number in box_of(cell[4], font)[:3]] for cell in cells]
            gap = Fraction(*dict(font)[GAP])
            least = self.as_numbers(columns_of(grid, font))
            width = least[-1] + chance.choice((0, Fraction(1, 3), 5))
            most = self.as_numbers(last_columns(grid, font, (width.numerator, width.denominator)))
            tops, bases = map(self.as_numbers, rows_of(grid, font))
            self.assertEqual((len(least), len(most), len(tops), len(bases)), (columns + 1, columns + 1, rows + 1, rows))
            for boundaries in (least, most):
                self.assertEqual(boundaries[0], 0)
                self.assertEqual(boundaries, sorted(boundaries))
                for cell, box in zip(cells, boxes):
                    self.assertGreaterEqual(boundaries[cell[1]] - boundaries[cell[0]], box[0] + gap)
            self.assertEqual(most[-1], width)
            places = [place for pair in zip(tops, bases) for place in pair] + tops[-1:]
            self.assertEqual(places, sorted(places))
            for cell, box in zip(cells, boxes):
                self.assertGreaterEqual(bases[cell[2]] - tops[cell[2]], box[1])
                self.assertGreaterEqual(tops[cell[3]] - bases[cell[2]], box[2] + gap)
            # Each place is told by one of what it has to be, so that none can be less, or greater.
            for boundary in range(1, columns + 1):
                own = [least[boundary - 1]] + [least[cell[0]] + box[0] + gap for cell, box in zip(cells, boxes) if cell[1] == boundary]
                self.assertEqual(least[boundary], max(own))
            for boundary in range(1, columns):
                own = [most[boundary + 1]] + [most[cell[1]] - box[0] - gap for cell, box in zip(cells, boxes) if cell[0] == boundary]
                self.assertEqual(most[boundary], min(own))
            for row in range(rows):
                self.assertEqual(bases[row], max([tops[row]] + [tops[row] + box[1] for cell, box in zip(cells, boxes) if cell[2] == row]))
                own = [bases[row]] + [bases[cell[2]] + box[2] + gap for cell, box in zip(cells, boxes) if cell[3] == row + 1]
                self.assertEqual(tops[row + 1], max(own))
            for boundary in range(columns + 1):
                chain = longest_chain(grid, font, boundary)
                self.assertEqual(Fraction(*check_chain(grid, font, boundary, chain)), least[boundary])
                self.assertEqual(chain == (), least[boundary] == 0)
            for number, (cell, box) in enumerate(zip(cells, boxes)):
                found = Fraction(*slack(grid, font, (width.numerator, width.denominator), number))
                self.assertEqual(found, most[cell[1]] - box[0] - gap - least[cell[0]])
                self.assertGreaterEqual(found, 0)
                seen += 1
            items = []
            for cell in cells:
                left, base = columns_of(grid, font)[cell[0]], rows_of(grid, font)[1][cell[2]]
                items += [(added(x, left), added(y, (-base[0], base[1])), thing) for x, y, thing in box_of(cell[4], font)[3]]
            self.assertEqual(grid_items(grid, font), sorted_items(items))
            self.assertEqual(grid_size(grid, font), (columns_of(grid, font)[-1], rows_of(grid, font)[0][-1]))
        self.assertGreater(seen, 300)

    def test_the_greatest_grid(self):
        cells = tuple((column, column + 1, row, row + 1, ("bar", A)) for row in range(2) for column in range(12))
        grid = check_grid((12, 12, cells))
        font = some_font(Random(2), grid_names(grid))
        with Within(self, 5):
            columns_of(grid, font)
            rows_of(grid, font)
            grid_items(grid, font)
            longest_chain(grid, font, 12)


if __name__ == "__main__":
    unittest.main()
