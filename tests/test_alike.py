import unittest
from random import Random

from chance import some_family, some_formula, some_formulas
from everyfont.alike import are_alike, check_parting, parting_font
from everyfont.boxes import box_of
from everyfont.errors import Empty, NotFamily, NotFont, NotPaper, NotPoint, TooGreat
from everyfont.families import check_family, family_font, family_pairs
from everyfont.fonts import needed
from everyfont.formulas import words_of
from everyfont.plains import plain
from everyfont.systems import holds_all
from wrong import ANYTHING, Within, deep_tuple, raised

A, B, C = ("sign", "a"), ("sign", "b"), ("sign", "c")
WIDE_A, WIDE_B = ("wide", "a", 0), ("wide", "b", 0)


def family_for(*formulas, unknown=(), system=()):
    """Return the FAMILY of some FORMULAS with these unknowns, all other NAMES being 1."""
    names = sorted({name for formula in formulas for name in needed(formula)} - set(unknown))
    return check_family((tuple(sorted(unknown)), tuple((name, (1, 1)) for name in names), system))


def is_inner(family, point):
    """Return whether a POINT is that of an inner font."""
    return holds_all(len(family[0]), tuple(("gt", row) for _, row in family_pairs(family)), point)


class ByHand(unittest.TestCase):
    def are_told(self, family, formula, other, told):
        for one, two in ((formula, other), (other, formula)):
            with self.subTest(one, other=two):
                self.assertIs(are_alike(family, one, two), told)
                point = parting_font(family, one, two)
                self.assertEqual(parting_font(family, one, two), point)
                self.assertEqual(point is None, told)
                if not told:
                    self.assertTrue(is_inner(family, point))
                    font = family_font(family, point)
                    self.assertNotEqual(box_of(one, font)[:3], box_of(two, font)[:3])
                    self.assertIs(check_parting(family, one, two, point), True)

    def test_like_ones(self):
        row, other = ("row", A, B), ("row", B, A)
        family = family_for(row, unknown=(WIDE_A, WIDE_B, ("high", "a", 0), ("high", "b", 0), ("space", 0)))
        self.are_told(family, row, other, True)
        self.are_told(family, row, row, True)
        self.are_told(family, ("row", row), row, True)
        self.are_told(family, ("row", A, row), ("row", row, A), True)
        # A fence is no root, but a bar over a fence is none of both.
        family = family_for(("fence", A), ("root", A), unknown=(("rule", 0), ("gap", 0)))
        self.are_told(family, ("fence", ("root", A)), ("root", ("fence", A)), True)
        self.are_told(family, ("fence", A), ("root", A), False)

    def test_parted_ones(self):
        family = family_for(("row", A, B), unknown=(WIDE_A, WIDE_B))
        self.are_told(family, A, B, False)
        self.are_told(family, ("row", A, A), ("row", A, B), False)
        self.are_told(family, A, ("row", A), True)
        self.are_told(family, A, ("row", A, A), False)

    def test_each_of_the_three_numbers(self):
        for word, level in (("wide", 0), ("high", 0), ("deep", 0)):
            family = family_for(A, B, unknown=((word, "a", level),))
            self.are_told(family, A, B, False)
            self.are_told(family, A, A, True)

    def test_like_ones_because_of_the_family(self):
        # a is wider than b: the column of both is as wide as a.
        column, alone = ("table", ((A,), (B,))), ("table", ((A,), (A,)))
        free = family_for(column, unknown=(WIDE_A, WIDE_B))
        wider = family_for(column, unknown=(WIDE_A, WIDE_B), system=(("gt", (1, -1, 0, 1)),))
        touching = family_for(column, unknown=(WIDE_A, WIDE_B), system=(("ge", (1, -1, 0, 1)),))
        nearly = family_for(column, unknown=(WIDE_A, WIDE_B), system=(("ge", (10 ** 30, -10 ** 30, 1, 1)),))
        self.are_told(free, column, alone, False)
        self.are_told(wider, column, alone, True)
        self.are_told(touching, column, alone, True)
        self.are_told(nearly, column, alone, False)

    def test_parted_where_values_meet(self):
        # max(a, b) and (a + b) / 2 .. meet along a = b: 2 max(a, b) and a + b.
        column, other = ("table", ((A,), (B,))), ("table", ((B,), (A,)))
        twice, both = ("row", column, column), ("row", ("table", ((A,), (A,))), ("table", ((B,), (B,))))
        family = family_for(column, unknown=(WIDE_A, WIDE_B))
        self.are_told(family_for(twice, both, unknown=(WIDE_A, WIDE_B)), twice, both, False)
        self.are_told(family, column, other, True)

    def test_families_without_unknowns(self):
        family = family_for(A, ("row", A, B))
        self.are_told(family, A, B, True)
        self.are_told(family, A, ("row", A, B), False)
        self.assertEqual(parting_font(family, A, ("row", A, B)), (1,))

    def test_names(self):
        family = family_for(A, B, unknown=(WIDE_A,))
        self.assertIs(are_alike(other=B, formula=A, family=family), False)
        point = parting_font(other=B, formula=A, family=family)
        self.assertIs(check_parting(value=point, other=B, formula=A, family=family), True)


class CheckParting(unittest.TestCase):
    family = family_for(A, B, unknown=(WIDE_A, WIDE_B), system=(("ge", (-1, 0, 3, 1)),))

    def test_points(self):
        for point in ((1, 2, 1), (3, 1, 1), (1, 2, 2)):
            self.assertIs(check_parting(self.family, A, B, point), True)
        for point in ((4, 1, 1), (0, 1, 1), (1, 0, 1), (-1, 1, 1), (4, 4, 1), (0, 0, 1)):
            self.assertIsNone(raised(self, NotFamily, check_parting, self.family, A, B, point).place)
        for point in ((1, 1, 1), (3, 3, 1), (1, 1, 7)):
            self.assertEqual(raised(self, NotPaper, check_parting, self.family, A, B, point).path, ())
            self.assertEqual(raised(self, NotPaper, check_parting, self.family, A, A, (1, 2, 1)).path, ())

    def test_fonts_that_are_not_inner(self):
        # 3 = x is at the rim; space may be 0. Both are fonts of the family.
        self.assertIs(check_parting(self.family, A, B, (3, 2, 1)), True)
        row = ("row", A, B)
        family = family_for(row, A, unknown=(("space", 0),))
        self.assertIs(check_parting(family, row, A, (0, 1)), True)
        # With an "eq" pair there is no inner font, but there are fonts.
        family = family_for(A, B, unknown=(WIDE_A, WIDE_B), system=(("eq", (1, 1, -3, 1)),))
        raised(self, Empty, are_alike, family, A, B)
        self.assertIs(check_parting(family, A, B, (1, 2, 1)), True)
        self.assertEqual(raised(self, NotPaper, check_parting, family, A, B, (3, 3, 2)).path, ())
        self.assertIsNone(raised(self, NotFamily, check_parting, family, A, B, (1, 1, 1)).place)

    def test_the_boxes_numbers_alone(self):
        # The ITEMS differ, the numbers do not.
        self.assertEqual(raised(self, NotPaper, check_parting, family_for(A, B), A, B, (1,)).path, ())

    def test_other_values(self):
        for value, place in (
                (None, -1), ([1, 2, 1], -1), ((1, 2), -1), ((1, 2, 1, 1), -1), ((), -1), ("abc", -1), (deep_tuple(100), -1), ((True, 2, 1), 0),
                ((1, None, 1), 1), ((1, 2, True), 2), ((1, 2, 0), 2), ((1, 2, -1), 2), ((2, 4, 2), -2), ((0, 0, 2), -2)):
            self.assertEqual(raised(self, NotPoint, check_parting, self.family, A, B, value).place, place)
            self.assertEqual(raised(self, NotPoint, check_parting, self.family, A, A, value).place, place)
        for value in ANYTHING:
            self.assertIn(raised(self, NotPoint, check_parting, self.family, A, B, value).place, (-1, 0, 1))

    def test_lists_stay_as_they_are(self):
        value = [1, 2, 1]
        raised(self, NotPoint, check_parting, self.family, A, B, value)
        self.assertEqual(value, [1, 2, 1])


class Wrong(unittest.TestCase):
    def test_names_that_are_lacking(self):
        row = ("row", A, B)
        family = family_for(A)
        for function in (are_alike, parting_font, lambda *arguments: check_parting(*arguments, None)):
            self.assertEqual(raised(self, NotFont, function, family, row, C).name, ("deep", "b", 0))
            self.assertEqual(raised(self, NotFont, function, family, C, row).name, ("deep", "c", 0))
            self.assertEqual(raised(self, NotFont, function, family, A, row).name, ("deep", "b", 0))
            self.assertEqual(raised(self, NotFont, function, family, row, A).name, ("deep", "b", 0))

    def test_what_box_tops_raises_of_formula_then_of_other(self):
        many = ("row", *(("table", ((("sign", letter),), (C,))) for letter in "defghiklm"))
        unknown = [("wide", letter, 0) for letter in "defghiklm"]
        family = family_for(many, unknown=unknown)
        empty = family_for(many, unknown=unknown, system=(("eq", (0,) * 10 + (1,)),))
        for function in (are_alike, parting_font):
            self.assertEqual(raised(self, TooGreat, function, family, many, C).most, 400)
            self.assertEqual(raised(self, TooGreat, function, family, C, many).most, 400)
            self.assertEqual(raised(self, TooGreat, function, family, many, A).most, 400)
            self.assertEqual(raised(self, NotFont, function, family, A, many).name, ("deep", "a", 0))
            self.assertEqual(raised(self, NotFont, function, family, C, A).name, ("deep", "a", 0))
            raised(self, Empty, function, empty, many, A)
            raised(self, Empty, function, empty, C, many)
            raised(self, Empty, function, empty, C, A)
            self.assertEqual(raised(self, NotFont, function, empty, A, C).name, ("deep", "a", 0))
        # check_parting raises neither.
        self.assertIs(check_parting(family, many, C, (1,) * 10), True)
        self.assertEqual(raised(self, NotPaper, check_parting, empty, C, ("row", C), (1,) * 10).path, ())


class AgainstBoxes(unittest.TestCase):
    def test_by_chance(self):
        chance = Random(1)
        told = {True: 0, False: 0}
        for formula, _ in some_formulas(150, 51):
            other = chance.choice((plain(formula), some_formula(chance, 2, ("sign", "row", "fence")), formula))
            whole = ("row", formula, other)
            if words_of(whole) > 60:
                continue
            family = some_family(chance, whole, chance.choice((0, 3)), 4)
            try:
                with Within(self, 20):
                    found = are_alike(family, formula, other)
                with Within(self, 20):
                    point = parting_font(family, formula, other)
            except TooGreat:
                continue
            told[found] += 1
            self.assertEqual(point is None, found)
            if not found:
                self.assertIs(check_parting(family, formula, other, point), True)
                self.assertTrue(is_inner(family, point))
        self.assertGreater(min(told.values()), 30)


if __name__ == "__main__":
    unittest.main()
