import unittest
from random import Random

from chance import as_fraction, family_for, some_family, some_font, some_formulas
from everyfont.bars import point_or_bar
from everyfont.boxes import box_of
from everyfont.counting import counts_at
from everyfont.errors import Empty, NotFont, TooGreat
from everyfont.expressions import box_tops, name_row, part_tops
from everyfont.families import family_font, family_pairs
from everyfont.fonts import needed
from everyfont.formulas import check_formula, paths_of
from everyfont.steps import numbers_of_part, step_values
from everyfont.systems import first_broken
from everyfont.tops import check_top, top_value
from fractions import Fraction
from wrong import Within, raised

A, B, C, Z = ("sign", "a"), ("sign", "b"), ("sign", "c"), ("sign", "z")
WIDE_A, WIDE_B, HIGH_A, HIGH_B, DEEP_A = ("wide", "a", 0), ("wide", "b", 0), ("high", "a", 0), ("high", "b", 0), ("deep", "a", 0)


def constant(number, count=2):
    """Return the TOP of a number."""
    return ((0,) * count + as_fraction(Fraction(number)),)


class NameRow(unittest.TestCase):
    family = ((DEEP_A, WIDE_A), ((HIGH_A, (3, 2)), (WIDE_B, (7, 1))), ())

    def test_by_hand(self):
        for name, row in ((DEEP_A, (1, 0, 0, 1)), (WIDE_A, (0, 1, 0, 1)), (HIGH_A, (0, 0, 3, 2)), (WIDE_B, (0, 0, 7, 1))):
            self.assertEqual(name_row(self.family, name), row)
        self.assertEqual(name_row(name=HIGH_A, family=self.family), (0, 0, 3, 2))
        self.assertEqual(name_row(((), ((DEEP_A, (0, 1)),), ()), DEEP_A), (0, 1))
        self.assertEqual(name_row(((WIDE_A,), (), (("eq", (0, 1, 1)),)), WIDE_A), (1, 0, 1))

    def test_other_names(self):
        for name in (("wide", "a", 1), ("gap", 0), ("high", "b", 0), ("wide", "ab", 0)):
            self.assertEqual(raised(self, NotFont, name_row, self.family, name).name, name)


class ByHand(unittest.TestCase):
    def is_told(self, formula, family, *tops):
        """Hold box_tops against three TOPS; an integer or string stands for that of a number."""
        check_formula(formula)
        tops = tuple(top if isinstance(top, tuple) else constant(top, len(family[0])) for top in tops)
        self.assertEqual(box_tops(family, formula), tops)
        self.assertEqual(box_tops(formula=formula, family=family), tops)
        self.assertEqual(dict(part_tops(family, formula))[()], tops)
        self.assertEqual(part_tops(formula=formula, family=family), part_tops(family, formula))
        for top in tops:
            self.assertIs(check_top(len(family[0]), top), top)

    def test_sign(self):
        self.is_told(A, family_for(A, DEEP_A, WIDE_A, high=3), ((0, 1, 0, 1),), 3, ((1, 0, 0, 1),))
        self.is_told(A, family_for(A, wide="7/2", deep=0), "7/2", 1, 0)

    def test_row(self):
        formula = ("row", A, B, A)
        self.is_told(formula, family_for(formula, WIDE_A, WIDE_B, space="1/4"), ((4, 2, 1, 2),), 1, 1)
        self.is_told(formula, family_for(formula, HIGH_A, HIGH_B), 5, ((0, 1, 0, 1), (1, 0, 0, 1)), 1)
        # high a is more than 1, high b less: the greater one is known, b and the constant never count.
        system = (("gt", (1, 0, -1, 1)), ("gt", (0, -1, 1, 1)))
        self.is_told(formula, family_for(formula, HIGH_A, HIGH_B, system=system), 5, ((1, 0, 0, 1),), 1)
        self.is_told(formula, family_for(formula, HIGH_B, high=2), 5, ((0, 2, 1), (1, 0, 1)), 1)
        one = ("row", A)
        self.is_told(one, family_for(one, WIDE_A, DEEP_A), ((0, 1, 0, 1),), 1, ((1, 0, 0, 1),))

    def test_over(self):
        formula = ("over", A, B)
        wide = (("wide", "a", 1), ("wide", "b", 1))
        numbers = dict(axis="1/2", deep="1/4", gap="1/4", rule="1/8", high=2)
        self.is_told(formula, family_for(formula, *wide, **numbers), ((0, 2, 1, 2), (2, 0, 1, 2)), "25/8", 2)
        system = (("ge", (-1, 1, 0, 1)),)
        self.is_told(formula, family_for(formula, *wide, system=system, **numbers), ((0, 2, 1, 2),), "25/8", 2)
        # rise or axis + rule + gap + deep a = 9/8 + 2; fall or gap + high b - axis = 7/4, and 1/4.
        self.is_told(
            formula, family_for(formula, ("fall", 0), ("rise", 0), **numbers), "3/2", ((0, 0, 25, 8), (0, 1, 2, 1)),
            ((0, 0, 2, 1), (4, 0, 1, 4)))
        # axis is unknown: 3 (axis + ..) is not less than 1 only where it is great; below, it is taken away.
        self.is_told(
            formula, family_for(formula, ("axis", 0), gap=1, rule=1, deep=1, high=1), 3, ((1, 4, 1),), ((-1, 3, 1), (0, 2, 1)))

    def test_root_fence_bar(self):
        names = (("gap", 0), ("rule", 0))
        for formula, wide, high, deep in (
                (("root", A), (2, 1, 1, 1), (1, 1, 1, 1), (1, 0, 1, 1)), (("fence", A), (2, 2, 1, 1), (1, 0, 1, 1), (1, 0, 1, 1)),
                (("bar", A), (0, 0, 1, 1), (1, 1, 1, 1), (0, 0, 1, 1))):
            self.is_told(formula, family_for(formula, *names), (wide,), (high,), (deep,))

    def test_scripts(self):
        high, low, both = ("high", A, B), ("low", A, B), ("both", A, B, C)
        # U is the greater of rise and 3 - rise; then the greater of 3 and U + 1; of 1 and 1 - rise the latter is less.
        self.is_told(high, family_for(high, ("rise", 0), high=3), 2, ((-1, 6, 1), (1, 3, 1)), 1)
        self.is_told(high, family_for(high, ("rise", 0), ("deep", "b", 1), high=3), 2, ((0, -1, 6, 1), (0, 1, 3, 1)), (
            (0, 0, 1, 1), (1, -1, 0, 1)))
        self.is_told(low, family_for(low, ("fall", 0)), 2, 1, ((0, 2, 1), (1, 1, 1)))
        self.is_told(low, family_for(low, ("fall", 0), ("high", "b", 1)), 2, ((-1, 1, 0, 1), (0, 0, 1, 1)), (
            (0, 0, 2, 1), (1, 0, 1, 1)))
        self.is_told(both, family_for(both, ("wide", "b", 1), ("wide", "c", 1), high=2), ((0, 1, 1, 1), (1, 0, 1, 1)), 3, 2)
        self.is_told(both, family_for(both, ("rise", 0), ("fall", 0), high=3), 2, ((0, -1, 6, 1), (0, 1, 3, 1)), (
            (0, 0, 2, 1), (1, 0, 1, 1)))

    def test_limits(self):
        under, upper, limits = ("under", "s", A), ("upper", "s", A), ("limits", "s", A, B)
        wide = (("wide", "a", 1), ("wide", "s", 0))
        both = ((0, 1, 0, 1), (1, 0, 0, 1))
        self.is_told(under, family_for(under, *wide), both, 1, 4)
        self.is_told(under, family_for(under, ("fall", 0), ("gap", 0)), 1, 1, ((0, 1, 3, 1), (1, 0, 1, 1)))
        self.is_told(upper, family_for(upper, *wide), both, 4, 1)
        self.is_told(upper, family_for(upper, ("gap", 0), ("rise", 0)), 1, ((0, 1, 1, 1), (1, 0, 3, 1)), 1)
        self.is_told(limits, family_for(limits, ("wide", "b", 1), *wide), ((0, 0, 1, 0, 1), (0, 1, 0, 0, 1), (1, 0, 0, 0, 1)), 4, 4)
        self.is_told(limits, family_for(limits, ("fall", 0), ("gap", 0)), 1, ((0, 1, 3, 1),), ((0, 1, 3, 1), (1, 0, 1, 1)))

    def test_table(self):
        formula = ("table", ((A, B), (B, Z)))
        # Columns: a or b, b or z = 1; rows 1 + 1 each, and gap: T is 5.
        self.is_told(
            formula, family_for(formula, WIDE_A, WIDE_B),
            ((0, 1, 7, 1), (0, 2, 6, 1), (1, 0, 7, 1), (1, 1, 6, 1)), "7/2", "3/2")
        self.is_told(formula, family_for(formula, ("axis", 0)), 8, ((2, 5, 2),), ((-2, 5, 2), (0, 0, 1)))
        self.is_told(formula, family_for(formula, ("axis", 0), system=(("ge", (-1, 2, 1)),)), 8, ((2, 5, 2),), ((-2, 5, 2),))
        self.is_told(formula, family_for(formula, ("gap", 0), ("space", 0)), ((3, 1, 4, 1),), ((1, 0, 6, 2),), ((1, 0, 2, 2),))

    def test_formulas_within_formulas(self):
        # max(a, b) + max(a, b): sums of unlike ROWS, a + b, count nowhere.
        part = ("table", ((A,), (B,)))
        formula = ("row", part, part)
        family = family_for(formula, WIDE_A, WIDE_B)
        self.is_told(formula, family, ((0, 2, 9, 1), (2, 0, 9, 1)), "7/2", "3/2")
        tops = dict(part_tops(family, formula))
        self.assertEqual(tops[(1,)], tops[(2,)])
        self.assertEqual(tops[(1,)][0], ((0, 1, 4, 1), (1, 0, 4, 1)))
        self.assertEqual(tops[(2, 1, 1, 0)], (((0, 1, 0, 1),), constant(1), constant(1)))
        self.assertEqual([path for path, _ in part_tops(family, formula)], list(paths_of(formula)))
        # A part that stands twice, once at each level.
        formula = ("over", ("row", A, A), ("fence", A))
        family = family_for(formula, ("wide", "a", 1), ("gap", 0))
        self.is_told(formula, family, ((2, 1, 4, 1), (2, 2, 1, 1)), ((1, 0, 4, 1),), ((1, 0, 3, 1),))

    def test_families_without_unknowns(self):
        formula = ("over", A, ("high", B, C))
        font = tuple((name, (1, 1)) for name in needed(formula))
        for system in ((), (("gt", (1, 7)),)):
            tops = box_tops(((), font, system), formula)
            self.assertEqual(tops, tuple((number,) for number in box_of(formula, font)[:3]))
        for system in ((("ge", (0, 1)),), (("eq", (0, 1)),), (("gt", (-1, 1)),), (("eq", (1, 1)),)):
            raised(self, Empty, box_tops, ((), font, system), formula)
            raised(self, Empty, part_tops, ((), font, system), formula)


class Wrong(unittest.TestCase):
    def test_names_that_are_lacking(self):
        formula = ("row", ("high", A, B), C)
        names = needed(formula)
        font = tuple((name, (1, 1)) for name in names)
        for number, name in enumerate(names):
            for function in (box_tops, part_tops):
                for system in ((), (("eq", (0, 1)),), (("gt", (-1, 1)),)):
                    family = ((), font[:number] + font[number + 1:], system)
                    self.assertEqual(raised(self, NotFont, function, family, formula).name, name)
                self.assertEqual(raised(self, NotFont, function, ((), font[:number], ()), formula).name, name)
            self.assertEqual(len(box_tops(((name,), font[:number] + font[number + 1:], ()), formula)), 3)

    def test_families_without_inner_fonts(self):
        formula = ("row", A, B)
        for system in (
                (("eq", (1, -1, 0, 1)),), (("ge", (1, 0, -1, 1)), ("ge", (-1, 0, 1, 1))), (("gt", (-1, 0, 0, 1)),), (("gt", (0, 0, 0, 1)),),
                (("eq", (0, 0, 3, 1)),)):
            for function in (box_tops, part_tops):
                raised(self, Empty, function, family_for(formula, WIDE_A, WIDE_B, system=system), formula)


class ManyRows(unittest.TestCase):
    """Columns whose widest cell is one of some signs, told by their letters; z has a number, the others are unknown."""

    def table(self, letters):
        return ("table", tuple((("sign", letter),) for letter in letters))

    def family(self, formula, level=0, **named):
        unknowns = [name for name in needed(formula) if name[0] == "wide" and name[1] not in "zq"]
        return family_for(formula, *unknowns, **named)

    def test_400_and_401_rows_of_a_greatest(self):
        # 2 * 2 * 2 * 2 * 5 * 5 sums, all of which count.
        row = ("row", *map(self.table, ("az", "bz", "cz", "dz", "efghz", "ijklz")))
        for formula in (row, ("fence", row), ("high", ("fence", row), Z)):
            check_formula(formula)
            with Within(self, 20):
                self.assertEqual(len(box_tops(self.family(formula), formula)[0]), 400)
        formula = ("under", "q", row)
        with Within(self, 20):
            self.assertEqual(raised(self, TooGreat, box_tops, self.family(formula), formula).most, 400)
        # The sign is less wide than all of them, but it counts for the 401st ROW.
        family = family_for(formula, *self.family(formula)[0], wide="1/2")
        with Within(self, 20):
            self.assertEqual(raised(self, TooGreat, part_tops, family, formula).most, 400)

    def test_rows_that_do_not_count_are_among_400(self):
        # a <= b <= ..: of the sums only those count in which the last ones are greater than 1.
        for many, is_told in ((8, True), (9, False)):
            letters = "abcdefghi"[:many]
            formula = ("row", *(self.table(letter + "z") for letter in letters))
            count = len(letters)
            system = tuple(
                ("ge", (0,) * k + (-1, 1) + (0,) * (count - k - 2) + (0, 1)) for k in range(count - 1))
            family = self.family(formula, system=system)
            if is_told:
                self.assertEqual(len(box_tops(family, formula)[0]), 9)
            else:
                self.assertEqual(raised(self, TooGreat, box_tops, family, formula).most, 400)
                self.assertEqual(raised(self, TooGreat, part_tops, family, formula).most, 400)

    def test_like_sums_count_once(self):
        # Twelve times max(a, z): thirteen unlike sums, of which two count.
        formula = ("row", *(self.table("az"),) * 12)
        self.assertEqual(box_tops(self.family(formula), formula)[0], ((0, 71, 1), (12, 59, 1)))

    def test_a_step_of_a_part_alone(self):
        # A STEP of a part has too many ROWS, though its TOP is not that of the whole.
        formula = ("row", *map(self.table, ("az", "bz", "cz", "dz", "ez", "fz", "gz", "hz", "iz")))
        raised(self, TooGreat, box_tops, self.family(formula), formula)
        raised(self, TooGreat, box_tops, self.family(("bar", formula)), ("bar", formula))

    def test_empty_comes_ahead(self):
        formula = ("row", *map(self.table, ("az", "bz", "cz", "dz", "ez", "fz", "gz", "hz", "iz")))
        raised(self, Empty, box_tops, self.family(formula, system=(("eq", (0,) * 10 + (1,)),)), formula)
        names = self.family(formula)[0]
        self.assertEqual(raised(self, NotFont, box_tops, (names, (), (("eq", (0,) * 10 + (1,)),)), formula).name, ("axis", 0))

    def test_many_sums(self):
        # 7 ** 8 ways to choose: that they are too many is found early.
        formula = ("table", tuple(tuple(("sign", "abcdefghijkl"[(5 * r + c) % 12]) for c in range(8)) for r in range(7)))
        with Within(self, 5):
            raised(self, TooGreat, box_tops, self.family(formula), formula)


class AgainstBoxes(unittest.TestCase):
    def test_values_and_that_all_count(self):
        chance = Random(1)
        for formula, _ in some_formulas(150, 21):
            family = some_family(chance, formula, chance.choice((0, 0, 4)), 5)
            count, pairs = len(family[0]), family_pairs(family)
            try:
                tops = part_tops(family, formula)
            except TooGreat:
                continue
            self.assertEqual(box_tops(family, formula), tops[0][1])
            self.assertEqual(tuple(path for path, _ in tops), paths_of(formula))
            for path, own in tops:
                self.assertEqual([check_top(count, top) for top in own], list(own))
            for row in chance.sample(tops[0][1][1], 1):
                self.assertIsNotNone(counts_at(count, pairs, tops[0][1][1], row))
            points = [point_or_bar(count, pairs)[1]] if count else [(1,)]
            for _ in range(6):
                font = some_font(chance, family[0])
                points.append(tuple(number[0] for _, number in font) + (1,))
            for point in points:
                if not count or first_broken(count, pairs, point) is None:
                    font = family_font(family, point)
                    values = step_values(formula, font)
                    self.assertEqual(tuple(top_value(top, point) for top in tops[0][1]), box_of(formula, font)[:3])
                    for path, own in tops:
                        numbers = numbers_of_part(formula, path)[:3]
                        self.assertEqual(tuple(top_value(top, point) for top in own), tuple(values[number] for number in numbers))

    def test_most_words_and_greatest_depth(self):
        chance = Random(2)
        deep = A
        for _ in range(7):
            deep = ("over", deep, C)
        wide = ("row", *(chance.choice((A, B, C)) for _ in range(59)))
        nested = A
        for word in ("high", "over", "low", "over", "high", "over"):
            nested = (word, nested, B) if word == "over" else (word, ("fence", Z), nested)
        for formula in (deep, wide, nested):
            check_formula(formula)
            for _ in range(3):
                family = some_family(chance, formula, 40)
                with Within(self, 20):
                    self.assertEqual(box_tops(family, formula), box_tops(family, formula))


if __name__ == "__main__":
    unittest.main()
