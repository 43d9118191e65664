import unittest
from fractions import Fraction
from random import Random

from chance import as_fraction, family_for, some_family, some_font, some_formulas
from everyfont.best import range_of
from everyfont.errors import NotFont
from everyfont.families import family_pairs, is_font_of
from everyfont.fonts import needed
from everyfont.formulas import check_formula
from everyfont.spans import open_steps, step_bounds
from everyfont.steps import steps_of, step_values
from wrong import Within, raised

A, B, C = ("sign", "a"), ("sign", "b"), ("sign", "c")
WIDE_A, WIDE_B, HIGH_A, HIGH_B = ("wide", "a", 0), ("wide", "b", 0), ("high", "a", 0), ("high", "b", 0)
GAP, SPACE = ("gap", 0), ("space", 0)


def bound(number):
    return None if number is None else as_fraction(Fraction(number))


class ByHand(unittest.TestCase):
    def is_told(self, formula, family, told, opened=()):
        """Hold the BOUNDS of STEPS, told by their numbers, and all open ones, against what is told."""
        check_formula(formula)
        bounds = step_bounds(formula, family)
        self.assertEqual(step_bounds(family=family, formula=formula), bounds)
        self.assertIs(type(bounds), tuple)
        self.assertEqual(len(bounds), len(steps_of(formula)))
        for number, (low, high) in told.items():
            with self.subTest(number=number):
                self.assertEqual(bounds[number], (bound(low), bound(high)))
        self.assertEqual(open_steps(formula, family), opened)
        self.assertEqual(open_steps(family=family, formula=formula), opened)

    def test_names(self):
        # STEPS 0 to 2 are wide, high, deep; 3 and 4 left and base.
        self.is_told(A, family_for(A, WIDE_A, ("deep", "a", 0), high="7/2"), {0: (0, None), 1: ("7/2", "7/2"), 2: (0, None), 3: (0, 0), 4: (0, 0)})
        for word in ("ge", "gt"):
            system = ((word, (1, -1, 1)), (word, (-2, 5, 1)))
            self.is_told(A, family_for(A, WIDE_A, system=system), {0: (1, "5/2"), 1: (1, 1)})
        self.is_told(A, family_for(A, WIDE_A, system=(("eq", (3, -4, 1)),)), {0: ("4/3", "4/3")})
        # The pairs of the family tell more together: wide + high <= 5, high >= 2.
        system = (("ge", (-1, -1, 5, 1)), ("gt", (1, 0, -2, 1)))
        self.is_told(A, family_for(A, WIDE_A, HIGH_A, system=system), {0: (0, 3), 1: (2, 5)})

    def test_sums(self):
        # The fence's own STEPS are 3 to 5, then come left and base of it and of a.
        fence = ("fence", A)
        system = (("ge", (1, 0, -1, 1)), ("ge", (-1, 0, 2, 1)), ("ge", (0, -1, 7, 1)))
        self.is_told(fence, family_for(fence, GAP, WIDE_A, system=system, rule="1/2"), {3: (3, 12), 4: (2, 3), 5: (2, 3), 8: ("3/2", "5/2"), 9: (0, 0)})
        self.is_told(fence, family_for(fence, GAP, WIDE_A, system=system[:2]), {3: (4, None), 4: (2, 3)})
        # Shares below 0: 11 is gap + high b - axis, 20 the left of the denominator, half of 13 less half of 3.
        over = ("over", A, B)
        names = (("axis", 0), ("high", "b", 1), ("wide", "b", 1))
        system = (("ge", (1, 0, 0, -1, 1)), ("ge", (-1, 0, 0, 2, 1)), ("ge", (0, 1, 0, -3, 1)), ("ge", (0, 0, 1, -4, 1)), ("ge", (0, 0, -1, 6, 1)))
        self.is_told(
            over, family_for(over, *names, system=system),
            {4: (3, None), 11: (2, None), 6: (4, 6), 13: (6, 8), 18: ("5/2", "7/2"), 20: (0, 2), 8: (4, 5), 9: (4, 5), 12: (2, None), 21: (None, -2)})

    def test_greatest(self):
        row = ("row", A, B, C)
        low = (("ge", (1, 0, -2, 1)), ("ge", (-1, 0, 6, 1)), ("ge", (0, -1, 5, 1)))
        # 10 is the greatest of the three heights: a from 2 to 6, b from 0 to 5, c is 1.
        self.is_told(row, family_for(row, HIGH_A, HIGH_B, system=low), {1: (2, 6), 4: (0, 5), 7: (1, 1), 10: (2, 6), 11: (1, 1)}, (10,))
        # One without a greatest bound; then the greatest has none.
        self.is_told(row, family_for(row, HIGH_A, HIGH_B, system=low[:1]), {10: (2, None)}, (10,))
        self.is_told(row, family_for(row, HIGH_B), {10: (1, None)}, (10,))

    def test_settled_ones(self):
        row = ("row", A, B)
        for system, opened in (
                # a >= 3 and b <= 3; then b < 3, as the numbers alone count; then a bit more.
                ((("ge", (1, 0, -3, 1)), ("ge", (0, -1, 3, 1))), ()), ((("gt", (1, 0, -3, 1)), ("gt", (0, -1, 3, 1))), ()),
                ((("ge", (0, 1, -3, 1)), ("ge", (-1, 0, 3, 1))), ()), ((("ge", (1, 0, -3, 1)), ("ge", (0, -100, 301, 1))), (7,)),
                ((("ge", (1, 0, -3, 1)),), (7,)), ((("ge", (0, -1, 3, 1)),), (7,)), ((("ge", (1, -1, 0, 1)),), (7,)),
                ((("eq", (1, 0, -3, 1)), ("eq", (0, 1, -3, 1))), ()), ((("eq", (1, -1, 0, 1)),), (7,))):
            self.is_told(row, family_for(row, HIGH_A, HIGH_B, system=system), {}, opened)

    def test_fixed_numbers_settle(self):
        row = ("row", A, B, C)
        self.is_told(row, family_for(row), {9: (5, 5), 10: (1, 1)})
        over = ("over", A, B)
        self.is_told(over, family_for(over), {6: (1, 1), 9: (4, 4), 12: (1, 1), 13: (3, 3), 14: (5, 5), 15: (2, 2)})
        # One member settles, another one cannot: 0 and axis + T / 2, but not 0 and T / 2 - axis.
        table = ("table", ((A,),))
        self.is_told(table, family_for(table, ("axis", 0)), {8: (1, None), 9: (None, 1), 10: (1, None), 11: (0, 1)}, (11,))
        self.is_told(table, family_for(table, ("axis", 0), system=(("ge", (-1, 1, 1)),)), {9: (0, 1), 10: (1, 2), 11: (0, 1)}, ())

    def test_one_member(self):
        row = ("row", A)
        self.is_told(row, family_for(row, WIDE_A, HIGH_A), {4: (0, None)}, ())

    def test_a_step_behind_an_open_one(self):
        # The greatest of a fence's and c's heights: at least 1 + 1, at most 1.
        row = ("row", ("fence", ("row", A, B)), C)
        self.is_told(row, family_for(row, HIGH_A, HIGH_B), {}, (7,))
        self.is_told(row, family_for(row, HIGH_A, HIGH_B, gap="1/4"), {}, (7, 16))

    def test_families_without_fonts(self):
        row = ("row", A, B, A)
        for system in ((("gt", (0, 0, -1, 1)),), (("ge", (-1, 0, 0, 1)),), (("eq", (1, 0, -1, 1)), ("eq", (1, 0, -2, 1)))):
            family = family_for(row, HIGH_A, HIGH_B, system=system)
            self.is_told(row, family, {0: (1, 1), 1: (None, None), 4: (None, None), 9: (5, 5), 10: (None, None), 11: (1, 1)}, (10,))
            mixed = family_for(row, HIGH_A, WIDE_A, system=system)
            self.is_told(row, mixed, {0: (None, None), 9: (None, None), 10: (1, None)}, (10,))
        # Without unknowns the numbers are told all the same.
        self.is_told(row, ((), family_for(row)[1], (("gt", (-1, 1)),)), {0: (1, 1), 9: (5, 5), 10: (1, 1)}, ())

    def test_one_font(self):
        row = ("row", A, B)
        family = family_for(row, HIGH_A, HIGH_B, system=(("eq", (1, 0, -3, 1)), ("eq", (1, 1, -4, 1))))
        self.is_told(row, family, {1: (3, 3), 4: (1, 1), 7: (3, 3)}, ())


class Wrong(unittest.TestCase):
    def test_names_that_are_lacking(self):
        formula = ("row", ("high", A, B), C)
        names = needed(formula)
        font = tuple((name, (1, 1)) for name in names)
        for number, name in enumerate(names):
            for function in (step_bounds, open_steps):
                for system in ((), (("gt", (-1, 1)),)):
                    family = ((), font[:number] + font[number + 1:], system)
                    self.assertEqual(raised(self, NotFont, function, formula, family).name, name)


class AgainstOthers(unittest.TestCase):
    def test_bounds_are_told_by_the_words_of_the_document(self):
        chance = Random(1)
        for formula, _ in some_formulas(120, 61):
            family = some_family(chance, formula, chance.choice((0, 2, 6)))
            names, fixed, _ = family
            pairs, count = family_pairs(family), len(family[0])
            known = {name: (Fraction(*number),) * 2 for name, number in fixed}
            for number, name in enumerate(names):
                unit = (0,) * number + (1,) + (0,) * (count - number) + (1,)
                known[name] = tuple(own and Fraction(*own[0]) for own in range_of(count, pairs, unit))
            bounds, opened = [], []
            for number, (word, things) in enumerate(steps_of(formula)):
                if word == "sum":
                    low = high = Fraction(0)
                    for thing, share in things:
                        own = known[thing] if isinstance(thing, tuple) else bounds[thing]
                        ends = [None if end is None else end * Fraction(*share) for end in own][::1 if share[0] > 0 else -1]
                        low = None if None in (low, ends[0]) else low + ends[0]
                        high = None if None in (high, ends[1]) else high + ends[1]
                else:
                    lows, highs = zip(*(bounds[thing] for thing in things))
                    low = max((end for end in lows if end is not None), default=None)
                    high = None if None in highs else max(highs)
                    if not any(
                            all(j == k or (lows[k] is not None and highs[j] is not None and lows[k] >= highs[j]) for j in range(len(things)))
                            for k in range(len(things))):
                        opened.append(number)
                bounds.append((low, high))
            with Within(self, 5):
                self.assertEqual(step_bounds(formula, family), tuple(tuple(map(bound, own)) for own in bounds))
            self.assertEqual(open_steps(formula, family), tuple(opened))

    def test_values_are_within_bounds(self):
        chance = Random(2)
        for formula, _ in some_formulas(100, 62):
            family = some_family(chance, formula, 0)
            bounds = step_bounds(formula, family)
            for _ in range(3):
                font = tuple(sorted(some_font(chance, family[0]) + family[1]))
                if is_font_of(family, font):
                    for value, (low, high) in zip(step_values(formula, font), bounds):
                        value = Fraction(*value)
                        self.assertTrue(low is None or Fraction(*low) <= value)
                        self.assertTrue(high is None or value <= Fraction(*high))

    def test_great_families(self):
        chance = Random(3)
        looked = 0
        for formula, _ in some_formulas(400, 63):
            if len(needed(formula)) > 25:
                family = some_family(chance, formula, 40)
                with Within(self, 5):
                    bounds = step_bounds(formula, family)
                self.assertEqual(step_bounds(formula, family), bounds)
                looked += 1
        self.assertGreater(looked, 5)


if __name__ == "__main__":
    unittest.main()
