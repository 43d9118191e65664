import unittest
from fractions import Fraction
from random import Random

from chance import family_for, some_family, some_formulas
from everyfont.errors import Empty, NotFont, NotName, TooGreat, Unlike
from everyfont.expressions import box_tops
from everyfont.slopes import slopes, steepest
from wrong import ANYTHING, deep_tuple, raised

A, B, C = ("sign", "a"), ("sign", "b"), ("sign", "c")
HALF = ("over", A, B)
WIDE_A, WIDE_B = ("wide", "a", 0), ("wide", "b", 0)
X, Y = ("wide", "a", 1), ("wide", "b", 1)
WORDS = ("wide", "high", "deep")


class Slopes(unittest.TestCase):
    def test_by_hand(self):
        # max(x, y) + 2.
        family = family_for(HALF, X, Y, ("gap", 0), system=())
        self.assertEqual(slopes(family, HALF, "wide"), (((2, 1), (2, 1)), ((0, 1), (1, 1)), ((0, 1), (1, 1))))
        self.assertEqual(steepest(family, HALF, "wide"), 0)
        self.assertEqual(slopes(word="wide", formula=HALF, family=family), slopes(family, HALF, "wide"))
        self.assertEqual(steepest(word="wide", formula=HALF, family=family), 0)
        # high: max(1, 1 + 1 + gap + 1) + 1; deep: max(1, gap + 1 - 1) + 1.
        self.assertEqual(slopes(family, HALF, "high"), (((1, 1), (1, 1)), ((0, 1), (0, 1)), ((0, 1), (0, 1))))
        self.assertEqual(slopes(family, HALF, "deep"), (((0, 1), (1, 1)), ((0, 1), (0, 1)), ((0, 1), (0, 1))))

    def test_equal_coefficients(self):
        family = family_for(HALF, X, Y)
        self.assertEqual(slopes(family, HALF, "wide"), (((0, 1), (1, 1)),) * 2)
        self.assertEqual(steepest(family, HALF, "wide"), 0)
        # All are 0: the first one.
        self.assertEqual(steepest(family, HALF, "high"), 0)
        double = ("row", B, A, B)
        family = family_for(double, WIDE_A, WIDE_B, ("space", 0))
        # NAMES ascending: space, wide a, wide b.
        self.assertEqual(slopes(family, double, "wide"), (((2, 1), (2, 1)), ((1, 1), (1, 1)), ((2, 1), (2, 1))))
        self.assertEqual(steepest(family, double, "wide"), 0)
        family = family_for(double, WIDE_A, WIDE_B)
        self.assertEqual(steepest(family, double, "wide"), 1)

    def test_slopes_below_zero_and_fractions(self):
        table = ("table", ((A,),))
        family = family_for(table, ("axis", 0), ("high", "a", 0), system=(("ge", (-4, 1, 0, 1)),))
        # axis + (high + 1) / 2, and (high + 1) / 2 - axis.
        self.assertEqual(slopes(family, table, "high"), (((1, 1), (1, 1)), ((1, 2), (1, 2))))
        self.assertEqual(slopes(family, table, "deep"), (((-1, 1), (-1, 1)), ((1, 2), (1, 2))))
        self.assertEqual(steepest(family, table, "deep"), 1)
        family = family_for(table, ("axis", 0), ("high", "a", 0))
        self.assertEqual(slopes(family, table, "deep"), (((-1, 1), (0, 1)), ((0, 1), (1, 2))))

    def test_families_without_unknowns(self):
        family = family_for(HALF)
        self.assertEqual(slopes(family, HALF, "wide"), ())
        raised(self, Unlike, steepest, family, HALF, "wide")

    def test_errors(self):
        from_many = ("row", *(("table", ((("sign", letter),), (C,))) for letter in "defghiklm"))
        many = family_for(from_many, *[("wide", letter, 0) for letter in "defghiklm"])
        nowhere = family_for(A, WIDE_A, system=(("gt", (-1, 0, 1)),))
        alone = family_for(A, system=(("gt", (-1, 1)),))
        for function in (slopes, steepest):
            self.assertEqual(raised(self, NotFont, function, nowhere, B, None).name, ("deep", "b", 0))
            for value in ANYTHING + ("most", ["wide"], deep_tuple(100)):
                self.assertIs(raised(self, NotName, function, nowhere, A, value).name, value)
                self.assertIs(raised(self, NotName, function, alone, A, value).name, value)
            raised(self, Empty, function, nowhere, A, "high")
            # Empty() counts ahead of a FAMILY without unknowns.
            raised(self, Empty, function, alone, A, "high")
            self.assertEqual(raised(self, TooGreat, function, many, from_many, "high").most, 400)

    def test_by_chance(self):
        chance = Random(8)
        for formula, _ in some_formulas(60, 95):
            family = some_family(chance, formula, 3, 5)
            word = chance.choice(WORDS)
            try:
                rows = box_tops(family, formula)[WORDS.index(word)]
            except TooGreat:
                continue
            found = slopes(family, formula, word)
            self.assertEqual(len(found), len(family[0]))
            for number, (low, high) in enumerate(found):
                own = [Fraction(row[number], row[-1]) for row in rows]
                self.assertEqual((Fraction(*low), Fraction(*high)), (min(own), max(own)))
            if found:
                most = [Fraction(*high) for _, high in found]
                self.assertEqual(steepest(family, formula, word), most.index(max(most)))


if __name__ == "__main__":
    unittest.main()
