import unittest
from fractions import Fraction
from random import Random

from chance import as_fraction, lowest_row, some_system
from everyfont.errors import NotFamily, NotFont, NotPoint, NotSystem
from everyfont.families import check_family, family_font, family_pairs, is_font_of, need_served
from everyfont.fonts import check_font, needed
from everyfont.points import point_of
from everyfont.systems import holds_all
from wrong import ANYTHING, deep_tuple, raised

A, B = ("sign", "a"), ("sign", "b")
GAP, RULE, SPACE, DEEP = ("gap", 0), ("rule", 0), ("space", 0), ("deep", "a", 0)
NAMES = (DEEP, GAP, RULE, SPACE)
FIXED = ((("axis", 0), (1, 4)), (("high", "a", 0), (3, 1)), (("wide", "a", 0), (5, 2)))
# gap is at least twice rule; deep less space is less than 1/2; deep and gap add up to 3.
SYSTEM = (("ge", (0, 1, -2, 0, 0, 1)), ("gt", (-2, 0, 0, 2, 1, 2)), ("eq", (1, 1, 0, 0, -3, 1)))
FAMILY = (NAMES, FIXED, SYSTEM)
NOTHING = ((), (), ())
TWELVE = tuple(sorted((word, level) for word in ("gap", "rise") for level in range(6)))


def long_system(pairs, count=4):
    """Return a SYSTEM of so many pairs."""
    return (("ge", (0,) * count + (1, 1)),) * pairs


class CheckFamily(unittest.TestCase):
    def test_families(self):
        for family in (
                FAMILY, NOTHING, ((), FIXED, ()), (NAMES, (), ()), ((), (), (("gt", (-1, 2)),)), (NAMES, FIXED, long_system(40)),
                (TWELVE, FIXED, long_system(40, 12)), ((("gap", 7), ("wide", "abcdefgh", 7)), FIXED, (("eq", (1, 2, 3, 4)),))):
            with self.subTest(family):
                self.assertIs(check_family(family), family)
        self.assertIs(check_family(value=FAMILY), FAMILY)

    def test_zeros_of_fixed_numbers(self):
        for name in (("deep", "b", 0), ("space", 1)):
            self.assertTrue(check_family(((), ((name, (0, 1)),), ())))

    def test_no_tuple_of_three(self):
        for value in ANYTHING + ((), FAMILY[:2], FAMILY + ((),), list(FAMILY), (FAMILY,), deep_tuple(100)):
            with self.subTest(value):
                self.assertEqual(raised(self, NotFamily, check_family, value).place, -1)

    def test_names_that_are_none(self):
        wrong = (
            list(NAMES), NAMES[0], (GAP, DEEP), (GAP, GAP), (GAP, None), (GAP, ["rule", 0]), (GAP, ("rule", 8)), (GAP, ("rule", True)),
            TWELVE + (("rise", 6),), (("gap",),), (("wide", "A", 0),), ("gap", 0), None, True, {GAP}, {GAP: 1}, "", deep_tuple(90),
            (GAP, ("axis", 0)), (("wide", "a", 0), ("wide", "a", 0)))
        for names in wrong + ANYTHING:
            with self.subTest(names):
                self.assertEqual(raised(self, NotFamily, check_family, (names, None, None)).place, 0)
                self.assertEqual(raised(self, NotFamily, check_family, (names, FIXED, ())).place, 0)

    def test_fixed_numbers_that_are_none(self):
        wrong = (
            list(FIXED), FIXED[::-1], FIXED[:1] * 2, ((("axis", 0), (2, 8)),), ((("axis", 0), 1),), ((("axis", 8), (1, 4)),),
            ((GAP, (1, 1)),), ((("axis", 0), (1, 4)), (SPACE, (0, 1))), ((DEEP, (0, 1)),), (None,), "axis", (FIXED,))
        unlawful = tuple(
            ((name, number),) for number in ((0, 1), (-1, 2))
            for name in (("axis", 1), ("rule", 1), ("gap", 1), ("rise", 1), ("fall", 1), ("wide", "b", 0), ("high", "b", 0)))
        negative = (((("deep", "b", 0), (-1, 9)),), ((("space", 1), (-1, 1)),))
        for fixed in wrong + unlawful + negative + ANYTHING:
            with self.subTest(fixed):
                self.assertEqual(raised(self, NotFamily, check_family, (NAMES, fixed, None)).place, 1)
                self.assertEqual(raised(self, NotFamily, check_family, (NAMES, fixed, SYSTEM)).place, 1)

    def test_systems_that_are_no_tuple_of_at_most_40(self):
        for system in (None, list(SYSTEM), "ge", True, 0, {}, long_system(41), (None,) * 41, set()):
            with self.subTest(system):
                self.assertIsNone(raised(self, NotSystem, check_family, (NAMES, FIXED, system)).number)

    def test_pairs_that_are_none(self):
        row = SYSTEM[0][1]
        wrong = ANYTHING + (
            ["ge", row], ("ge",), ("ge", row, row), ("le", row), ("GE", row), (None, row), (["ge"], row), (row, "ge"), ("ge", list(row)),
            ("ge", row[1:]), ("ge", row + (1,)), ("ge", (0, 2, -4, 0, 0, 2)), ("ge", (0, 1, -2, 0, 0, 0)), ("ge", (0, 1, True, 0, 0, 1)),
            ("ge", None), ("", row), deep_tuple(90))
        for pair in wrong:
            with self.subTest(pair):
                self.assertEqual(raised(self, NotSystem, check_family, (NAMES, FIXED, (pair,))).number, 0)
                self.assertEqual(raised(self, NotSystem, check_family, (NAMES, FIXED, SYSTEM + (pair, None))).number, 3)
                self.assertEqual(
                    raised(self, NotSystem, check_family, (NAMES, FIXED, long_system(39) + (pair,))).number, 39)

    def test_rows_have_as_many_numbers_as_there_are_unknowns(self):
        self.assertEqual(raised(self, NotSystem, check_family, ((), (), (("ge", (1, 0, 1)),))).number, 0)
        self.assertEqual(raised(self, NotSystem, check_family, ((GAP,), (), (("ge", (1, 0, 1)), ("ge", (0, 1))))).number, 1)

    def test_the_first_fault_is_told(self):
        self.assertEqual(raised(self, NotFamily, check_family, ((GAP, GAP), [], None)).place, 0)
        self.assertEqual(raised(self, NotFamily, check_family, (NAMES, [], None)).place, 1)
        self.assertEqual(raised(self, NotFamily, check_family, (None, None)).place, -1)

    def test_lists_stay_as_they_are(self):
        value = (NAMES, FIXED, [list(pair) for pair in SYSTEM])
        raised(self, NotSystem, check_family, value)
        self.assertEqual(value, (NAMES, FIXED, [list(pair) for pair in SYSTEM]))


class FamilyPairs(unittest.TestCase):
    def test_by_hand(self):
        self.assertEqual(family_pairs(FAMILY), SYSTEM + (
            ("ge", (1, 0, 0, 0, 0, 1)), ("gt", (0, 1, 0, 0, 0, 1)), ("gt", (0, 0, 1, 0, 0, 1)), ("ge", (0, 0, 0, 1, 0, 1))))
        self.assertEqual(family_pairs(NOTHING), ())
        self.assertEqual(family_pairs(((), (), (("gt", (-1, 2)),))), (("gt", (-1, 2)),))
        self.assertEqual(family_pairs(family=((GAP,), (), ())), (("gt", (1, 0, 1)),))

    def test_each_word(self):
        names = (("axis", 3), ("deep", "a", 3), ("fall", 3), ("gap", 3), ("high", "a", 3), ("rise", 3), ("rule", 3), ("space", 3),
                 ("wide", "a", 3))
        words = [word for word, _ in family_pairs((names, (), ()))]
        self.assertEqual(words, ["gt", "ge", "gt", "gt", "gt", "gt", "gt", "ge", "gt"])

    def test_how_many(self):
        pairs = family_pairs((TWELVE, (), long_system(40, 12)))
        self.assertEqual(len(pairs), 52)
        self.assertEqual(pairs[51], ("gt", (0,) * 11 + (1, 0, 1)))


class FamilyFont(unittest.TestCase):
    def test_by_hand(self):
        self.assertEqual(family_font(FAMILY, (2, 4, 1, 0, 2)), (
            (("axis", 0), (1, 4)), (("deep", "a", 0), (1, 1)), (("gap", 0), (2, 1)), (("high", "a", 0), (3, 1)),
            (("rule", 0), (1, 2)), (("space", 0), (0, 1)), (("wide", "a", 0), (5, 2))))
        self.assertEqual(family_font(point=(1,), family=((), FIXED, ())), FIXED)
        self.assertEqual(family_font(NOTHING, (1,)), ())

    def test_fonts_that_are_none_of_the_family(self):
        font = family_font(((GAP,), (), (("gt", (0, -1, 1)),)), (-3, 2))
        self.assertEqual(font, ((GAP, (-3, 2)),))
        self.assertEqual(check_font(font), font)

    def test_wrong_points(self):
        for point in ANYTHING + ((1, 2, 3, 4), (1, 2, 3, 4, 5, 6), [1, 2, 3, 4, 5], deep_tuple(100)):
            with self.subTest(point):
                self.assertEqual(raised(self, NotPoint, family_font, FAMILY, point).place, -1)
        for point, place in (
                ((1, True, 3, 4, 5), 1), ((1, 2, 3, None, 0), 3), ((1, 2, 3, 4, 0), 4), ((2, 4, 6, 8, 2), -2), ((0, 0, 0, 0, 2), -2)):
            self.assertEqual(raised(self, NotPoint, family_font, FAMILY, point).place, place)
        self.assertEqual(raised(self, NotPoint, family_font, NOTHING, ()).place, -1)
        self.assertEqual(raised(self, NotPoint, family_font, NOTHING, (2,)).place, -2)


class IsFontOf(unittest.TestCase):
    def is_one(self, *numbers):
        return is_font_of(FAMILY, family_font(FAMILY, point_of(tuple(as_fraction(number) for number in numbers))))

    def test_by_hand(self):
        half = Fraction(1, 2)
        # deep, gap, rule, space: gap >= 2 rule, deep - space < 1/2 (as -deep + space + 1/2 > 0), deep + gap = 3.
        self.assertIs(self.is_one(0, 3, 1, 0), True)
        self.assertIs(self.is_one(0, 3, Fraction(3, 2), 0), True)
        self.assertIs(self.is_one(0, 3, Fraction(8, 5), 0), False)
        self.assertIs(self.is_one(half, 3 - half, 1, 0), False)
        self.assertIs(self.is_one(half, 3 - half, 1, Fraction(1, 9)), True)
        self.assertIs(self.is_one(0, 2, 1, 0), False)

    def test_lawful_pairs_count(self):
        self.assertIs(self.is_one(-1, 4, 1, 0), False)
        self.assertIs(self.is_one(0, 3, 0, 0), False)
        self.assertIs(self.is_one(0, 3, 1, -1), False)
        self.assertIs(self.is_one(0, 3, -1, 0), False)
        self.assertIs(is_font_of(((GAP,), (), ()), ((GAP, (0, 1)),)), False)
        self.assertIs(is_font_of(((SPACE,), (), ()), ((SPACE, (0, 1)),)), True)

    def test_other_names(self):
        font = family_font(FAMILY, (0, 3, 1, 0, 1))
        self.assertIs(is_font_of(FAMILY, font), True)
        for number in range(len(font)):
            self.assertIs(is_font_of(FAMILY, font[:number] + font[number + 1:]), False)
        self.assertIs(is_font_of(FAMILY, tuple(sorted(font + ((("gap", 1), (1, 1)),)))), False)
        self.assertIs(is_font_of(FAMILY, ()), False)

    def test_other_fixed_numbers(self):
        font = family_font(FAMILY, (0, 3, 1, 0, 1))
        for name, _ in FIXED:
            other = tuple((own, (7, 3) if own == name else number) for own, number in font)
            self.assertIs(is_font_of(FAMILY, other), False)

    def test_no_unknowns(self):
        self.assertIs(is_font_of(NOTHING, ()), True)
        self.assertIs(is_font_of(NOTHING, FIXED), False)
        self.assertIs(is_font_of(((), FIXED, ()), FIXED), True)
        self.assertIs(is_font_of(((), FIXED, (("ge", (-1, 1)),)), FIXED), False)
        self.assertIs(is_font_of(font=(), family=((), (), (("gt", (1, 1)), ("eq", (0, 1))))), True)

    def test_all_pairs_hold(self):
        chance = Random(1)
        for _ in range(200):
            family = (NAMES, FIXED, some_system(chance, 4, chance.randint(0, 2), ("ge", "gt"), 2))
            point = lowest_row([chance.randint(0, 4) for _ in range(4)] + [chance.randint(1, 3)])
            self.assertEqual(
                is_font_of(family, family_font(family, point)), holds_all(4, family_pairs(family), point))


class NeedServed(unittest.TestCase):
    formula = ("row", A, ("bar", A))

    def test_names_that_are_needed(self):
        self.assertEqual(need_served(FAMILY, self.formula), needed(self.formula))
        self.assertEqual(need_served(FAMILY, A), (("deep", "a", 0), ("high", "a", 0), ("wide", "a", 0)))
        self.assertEqual(need_served(formula=A, family=FAMILY), needed(A))
        self.assertEqual(need_served((needed(self.formula), (), ()), self.formula), needed(self.formula))

    def test_the_least_that_is_not_served(self):
        self.assertEqual(raised(self, NotFont, need_served, FAMILY, ("row", B, A)).name, ("deep", "b", 0))
        self.assertEqual(raised(self, NotFont, need_served, FAMILY, ("over", A, A)).name, ("deep", "a", 1))
        self.assertEqual(raised(self, NotFont, need_served, FAMILY, ("high", A, ("high", A, A))).name, ("deep", "a", 1))
        self.assertEqual(raised(self, NotFont, need_served, NOTHING, A).name, ("deep", "a", 0))
        self.assertEqual(raised(self, NotFont, need_served, (NAMES, (), ()), A).name, ("high", "a", 0))

    def test_each_name(self):
        names = needed(self.formula)
        for name in names:
            others = tuple(own for own in names if own != name)
            fixed = tuple((own, (1, 1)) for own in others)
            self.assertEqual(raised(self, NotFont, need_served, (others, (), ()), self.formula).name, name)
            self.assertEqual(raised(self, NotFont, need_served, ((), fixed, ()), self.formula).name, name)
            self.assertEqual(need_served(((name,), fixed, ()), self.formula), names)
            self.assertEqual(need_served((others, ((name, (1, 1)),), ()), self.formula), names)

    def test_a_family_without_fonts_serves_too(self):
        family = (needed(A), (), (("gt", (0, 0, 0, -1, 1)),))
        self.assertEqual(need_served(family, A), needed(A))


class Equal(unittest.TestCase):
    def test_equal_calls_return_equal_results(self):
        self.assertEqual(check_family(FAMILY), check_family((NAMES, FIXED, SYSTEM)))
        self.assertEqual(family_pairs(FAMILY), family_pairs(FAMILY))
        self.assertEqual(family_font(FAMILY, (0, 3, 1, 0, 1)), family_font(FAMILY, (0, 3, 1, 0, 1)))
        for value in (family_pairs(FAMILY), family_font(FAMILY, (0, 3, 1, 0, 1)), need_served(FAMILY, A)):
            self.assertIs(type(value), tuple)


if __name__ == "__main__":
    unittest.main()
