import unittest
from fractions import Fraction

from chance import as_fraction, some_font, some_formulas
from everyfont.errors import NotFont, NotFormula
from everyfont.fonts import needed
from everyfont.formulas import check_formula, paths_of
from everyfont.steps import numbers_of_part, step_values, steps_of
from measures import measured
from wrong import ANYTHING, Within, deep_tuple, raised

A, B, C = ("sign", "a"), ("sign", "b"), ("sign", "c")


def total(**shares):
    """Return the "sum" of THINGS: x3 is STEP 3, gap_0 and wide_a_1 are NAMES; a name's share may be any number."""
    pairs = []
    for name, share in shares.items():
        parts = name.split("_")
        thing = int(name[1:]) if name[1:].isdigit() else (*parts[:-1], int(parts[-1]))
        pairs.append((thing, as_fraction(Fraction(share))))
    return ("sum", tuple(pairs))


def most(*numbers):
    return ("greatest", numbers)


HALF, LESS_HALF = Fraction(1, 2), Fraction(-1, 2)
NOTHING = ("sum", ())


def sign(letters, level):
    """Return the three STEPS of a sign."""
    return tuple(total(**{f"{word}_{letters}_{level}": 1}) for word in ("wide", "high", "deep"))


class ByHand(unittest.TestCase):
    def is_told(self, formula, *steps):
        check_formula(formula)
        self.assertEqual(steps_of(formula), steps)

    def test_sign(self):
        self.is_told(A, *sign("a", 0), NOTHING, NOTHING)

    def test_row(self):
        self.is_told(
            ("row", A, B, C), *sign("a", 0), *sign("b", 0), *sign("c", 0),
            total(space_0=2, x0=1, x3=1, x6=1), most(1, 4, 7), most(2, 5, 8), NOTHING, NOTHING,
            total(x12=1), total(x13=1), total(space_0=1, x0=1, x12=1), total(x13=1),
            total(space_0=2, x0=1, x3=1, x12=1), total(x13=1))

    def test_row_of_one(self):
        self.is_told(
            ("row", A), *sign("a", 0), total(x0=1), most(1), most(2), NOTHING, NOTHING, total(x6=1), total(x7=1))

    def test_over(self):
        self.is_told(
            ("over", A, B), *sign("a", 1), *sign("b", 1), most(0, 3),
            total(rise_0=1), total(axis_0=1, gap_0=1, rule_0=1, x2=1), most(7, 8),
            total(fall_0=1), total(axis_0=-1, gap_0=1, x4=1), most(10, 11),
            total(gap_0=2, x6=1), total(x1=1, x9=1), total(x5=1, x12=1), NOTHING, NOTHING,
            total(x0=LESS_HALF, x13=HALF, x16=1), total(x9=1, x17=1),
            total(x3=LESS_HALF, x13=HALF, x16=1), total(x12=-1, x17=1))

    def test_root(self):
        self.is_told(
            ("root", A), *sign("a", 0), total(gap_0=2, rule_0=1, x0=1), total(gap_0=1, rule_0=1, x1=1),
            total(gap_0=1, x2=1), NOTHING, NOTHING, total(gap_0=1, rule_0=1, x6=1), total(x7=1))

    def test_fence(self):
        self.is_told(
            ("fence", A), *sign("a", 0), total(gap_0=2, rule_0=2, x0=1), total(gap_0=1, x1=1), total(gap_0=1, x2=1),
            NOTHING, NOTHING, total(gap_0=1, rule_0=1, x6=1), total(x7=1))

    def test_bar(self):
        self.is_told(
            ("bar", A), *sign("a", 0), total(x0=1), total(gap_0=1, rule_0=1, x1=1), total(x2=1),
            NOTHING, NOTHING, total(x6=1), total(x7=1))

    def test_high(self):
        self.is_told(
            ("high", A, B), *sign("a", 0), *sign("b", 1),
            total(rise_0=1), total(rise_0=-1, x1=1), most(6, 7),
            total(x4=1, x8=1), most(1, 9), total(rise_0=-1, x5=1), most(2, 11),
            total(x0=1, x3=1), total(x10=1), total(x12=1), NOTHING, NOTHING,
            total(x16=1), total(x17=1), total(x0=1, x16=1), total(x8=1, x17=1))

    def test_low(self):
        self.is_told(
            ("low", A, B), *sign("a", 0), *sign("b", 1),
            total(fall_0=1), total(x2=1), most(6, 7),
            total(fall_0=-1, x4=1), most(1, 9), total(x5=1, x8=1), most(2, 11),
            total(x0=1, x3=1), total(x10=1), total(x12=1), NOTHING, NOTHING,
            total(x16=1), total(x17=1), total(x0=1, x16=1), total(x8=-1, x17=1))

    def test_both(self):
        self.is_told(
            ("both", A, B, C), *sign("a", 0), *sign("b", 1), *sign("c", 1),
            total(fall_0=1), total(x2=1), most(9, 10),
            total(rise_0=1), total(rise_0=-1, x1=1), most(12, 13),
            total(fall_0=-1, x4=1), total(x7=1, x14=1), most(1, 15, 16),
            total(x5=1, x11=1), total(rise_0=-1, x8=1), most(2, 18, 19),
            most(3, 6), total(x0=1, x21=1), total(x17=1), total(x20=1), NOTHING, NOTHING,
            total(x25=1), total(x26=1), total(x0=1, x25=1), total(x11=-1, x26=1), total(x0=1, x25=1), total(x14=1, x26=1))

    def test_under(self):
        self.is_told(
            ("under", "s", A), *sign("a", 1),
            total(wide_s_0=1), most(3, 0), total(fall_0=1), total(deep_s_0=1, gap_0=1, x1=1), most(5, 6),
            total(x4=1), total(high_s_0=1), total(x2=1, x7=1), NOTHING, NOTHING,
            total(x0=LESS_HALF, x8=HALF, x11=1), total(x7=-1, x12=1))

    def test_upper(self):
        self.is_told(
            ("upper", "s", A), *sign("a", 1),
            total(wide_s_0=1), most(3, 0), total(rise_0=1), total(gap_0=1, high_s_0=1, x2=1), most(5, 6),
            total(x4=1), total(x1=1, x7=1), total(deep_s_0=1), NOTHING, NOTHING,
            total(x0=LESS_HALF, x8=HALF, x11=1), total(x7=1, x12=1))

    def test_limits(self):
        self.is_told(
            ("limits", "s", A, B), *sign("a", 1), *sign("b", 1),
            total(wide_s_0=1), most(6, 0, 3),
            total(fall_0=1), total(deep_s_0=1, gap_0=1, x1=1), most(8, 9),
            total(rise_0=1), total(gap_0=1, high_s_0=1, x5=1), most(11, 12),
            total(x7=1), total(x4=1, x13=1), total(x2=1, x10=1), NOTHING, NOTHING,
            total(x0=LESS_HALF, x14=HALF, x17=1), total(x10=-1, x18=1),
            total(x3=LESS_HALF, x14=HALF, x17=1), total(x13=1, x18=1))

    def test_table(self):
        # Rows a b; c a: the cells' STEPS are 0 to 11, columns 12, 13, rows 14 to 17.
        self.is_told(
            ("table", ((A, B), (C, A))), *sign("a", 0), *sign("b", 0), *sign("c", 0), *sign("a", 0),
            most(0, 6), most(3, 9), most(1, 4), most(2, 5), most(7, 10), most(8, 11),
            total(gap_0=1, x14=1, x15=1, x16=1, x17=1), NOTHING, total(axis_0=1, x18=HALF), total(axis_0=-1, x18=HALF),
            most(19, 20), most(19, 21),
            total(gap_0=3, rule_0=2, space_0=1, x12=1, x13=1), total(x22=1), total(x23=1), NOTHING, NOTHING,
            total(gap_0=1, rule_0=1, x0=LESS_HALF, x12=HALF, x27=1), total(x14=-1, x20=1, x28=1),
            total(gap_0=2, rule_0=1, space_0=1, x3=LESS_HALF, x12=1, x13=HALF, x27=1), total(x14=-1, x20=1, x28=1),
            total(gap_0=1, rule_0=1, x6=LESS_HALF, x12=HALF, x27=1),
            total(gap_0=-1, x14=-1, x15=-1, x16=-1, x20=1, x28=1),
            total(gap_0=2, rule_0=1, space_0=1, x9=LESS_HALF, x12=1, x13=HALF, x27=1),
            total(gap_0=-1, x14=-1, x15=-1, x16=-1, x20=1, x28=1))

    def test_table_of_one_cell(self):
        self.is_told(
            ("table", ((A,),)), *sign("a", 0), most(0), most(1), most(2), total(x4=1, x5=1), NOTHING,
            total(axis_0=1, x6=HALF), total(axis_0=-1, x6=HALF), most(7, 8), most(7, 9),
            total(gap_0=2, rule_0=2, x3=1), total(x10=1), total(x11=1), NOTHING, NOTHING,
            total(gap_0=1, rule_0=1, x0=LESS_HALF, x3=HALF, x15=1), total(x4=-1, x8=1, x16=1))

    def test_table_of_three_rows(self):
        formula = ("table", ((A,), (B,), (C,)))
        base = steps_of(formula)[numbers_of_part(formula, (1, 2, 0))[4]]
        whole = numbers_of_part(formula, ())
        # STEP 9 is the column, 10 to 15 are the rows, 16 is T, 18 is axis + T / 2.
        self.assertEqual(base, total(gap_0=-2, x10=-1, x11=-1, x12=-1, x13=-1, x14=-1, x18=1, **{f"x{whole[4]}": 1}))
        self.assertEqual(steps_of(formula)[16], total(gap_0=2, x10=1, x11=1, x12=1, x13=1, x14=1, x15=1))

    def test_parts_of_unlike_sizes(self):
        # The parts' STEPS come ahead, each behind those of its own parts; places in the sequence of PATHS.
        formula = ("root", ("row", A, ("bar", B)))
        self.is_told(
            formula, *sign("a", 0), *sign("b", 0), total(x3=1), total(gap_0=1, rule_0=1, x4=1), total(x5=1),
            total(space_0=1, x0=1, x6=1), most(1, 7), most(2, 8),
            total(gap_0=2, rule_0=1, x9=1), total(gap_0=1, rule_0=1, x10=1), total(gap_0=1, x11=1),
            NOTHING, NOTHING, total(gap_0=1, rule_0=1, x15=1), total(x16=1), total(x17=1), total(x18=1),
            total(space_0=1, x0=1, x17=1), total(x18=1), total(x21=1), total(x22=1))
        self.assertEqual([numbers_of_part(formula, path) for path in paths_of(formula)], [
            (12, 13, 14, 15, 16), (9, 10, 11, 17, 18), (0, 1, 2, 19, 20), (6, 7, 8, 21, 22), (3, 4, 5, 23, 24)])

    def test_levels(self):
        # The numerator is at level 1, what is raised in it at level 2.
        steps = steps_of(("over", ("high", A, B), C))
        self.assertEqual(steps[:3] + steps[3:6], sign("a", 1) + sign("b", 2))
        self.assertEqual(steps[6], total(rise_1=1))
        self.assertIn(total(axis_0=1, gap_0=1, rule_0=1, x15=1), steps)

    def test_names(self):
        self.assertEqual(steps_of(formula=A), steps_of(A))
        self.assertEqual(numbers_of_part(path=(), formula=A), (0, 1, 2, 3, 4))
        font = ((("deep", "a", 0), (0, 1)), (("high", "a", 0), (1, 1)), (("wide", "a", 0), (7, 2)))
        self.assertEqual(step_values(font=font, formula=A), ((7, 2), (1, 1), (0, 1), (0, 1), (0, 1)))


class Values(unittest.TestCase):
    def test_by_hand(self):
        formula = ("over", A, B)
        font = (
            (("axis", 0), (1, 2)), (("deep", "a", 1), (1, 4)), (("deep", "b", 1), (0, 1)), (("fall", 0), (1, 1)), (("gap", 0), (1, 4)),
            (("high", "a", 1), (1, 1)), (("high", "b", 1), (2, 1)), (("rise", 0), (1, 1)), (("rule", 0), (1, 8)),
            (("wide", "a", 1), (1, 1)), (("wide", "b", 1), (3, 1)))
        numbers = ("1 1 1/4 3 2 0 3 1 9/8 9/8 1 7/4 7/4 7/2 17/8 7/4 0 0 5/4 9/8 1/4 -7/4").split()
        self.assertEqual(step_values(formula, font), tuple(as_fraction(number) for number in numbers))

    def test_fonts_that_do_not_serve(self):
        formula = ("row", ("high", A, B), C)
        names = needed(formula)
        font = tuple((name, (1, 1)) for name in names)
        for number, name in enumerate(names):
            self.assertEqual(raised(self, NotFont, step_values, formula, font[:number] + font[number + 1:]).name, name)
            self.assertEqual(raised(self, NotFont, step_values, formula, font[:number]).name, name)
        self.assertEqual(step_values(formula, font + ((("zoo", 0), (1, 1)),)), step_values(formula, font))

    def test_against_boxes_told_otherwise(self):
        """Lawful fonts and others: STEPS tell the numbers of all parts."""
        for formula, chance in some_formulas(300, 11):
            font = some_font(chance, needed(formula), chance.random() < 0.7)
            values = step_values(formula, font)
            steps = steps_of(formula)
            self.assertEqual(len(values), len(steps))
            for path, _, *numbers in measured(formula, font):
                told = tuple(values[number] for number in numbers_of_part(formula, path))
                self.assertEqual(told, tuple(as_fraction(number) for number in numbers))

    def test_the_form_of_steps(self):
        for formula, _ in some_formulas(200, 12):
            steps = steps_of(formula)
            self.assertIs(type(steps), tuple)
            for number, (word, things) in enumerate(steps):
                self.assertIs(type(things), tuple)
                if word == "greatest":
                    self.assertGreaterEqual(len(things), 1)
                    self.assertTrue(all(0 <= thing < number for thing in things))
                    continue
                self.assertEqual(word, "sum")
                names = [thing for thing, _ in things if isinstance(thing, tuple)]
                numbers = [thing for thing, _ in things[len(names):]]
                self.assertEqual(names, sorted(set(names)))
                self.assertEqual(numbers, sorted(set(numbers)))
                self.assertTrue(all(0 <= thing < number for thing in numbers))
                self.assertTrue(set(names) <= set(needed(formula)))
                self.assertTrue(all(share[0] != 0 and share == as_fraction(Fraction(*share)) for _, share in things))
            # Left and base of all parts come last, two for each.
            places = [numbers_of_part(formula, path)[3:] for path in paths_of(formula)]
            first = len(steps) - 2 * len(places)
            self.assertEqual(places, [(first + 2 * k, first + 2 * k + 1) for k in range(len(places))])
            self.assertEqual(steps[first:first + 2], (NOTHING, NOTHING))
            self.assertEqual(steps_of(formula), steps)

    def test_most_words_and_greatest_depth(self):
        many = ("row",) + (A,) * 59
        steps = steps_of(many)
        self.assertEqual(len(steps), 59 * 3 + 3 + 2 * 60)
        self.assertEqual(steps[177], total(space_0=58, **{f"x{3 * k}": 1 for k in range(59)}))
        deep = A
        for _ in range(7):
            deep = ("over", deep, B)
        check_formula(deep)
        with Within(self, 5):
            self.assertEqual(len(steps_of(deep)), 8 * 3 + 7 * 10 + 2 * 15)
        grid = ("table", ((A,) * 8,) * 7)
        with Within(self, 5):
            self.assertEqual(len(steps_of(grid)), 56 * 3 + 8 + 14 + 9 + 2 * 57)


class Paths(unittest.TestCase):
    def test_other_values(self):
        formula = ("over", A, ("table", ((A, B),)))
        for path in ANYTHING + (
                (0,), (3,), (-1,), (1, 1), (True,), (2, True, 0, 0), (2, 1, 0), (2, 1, 0, 2), (2, 1, 1, 0), [1], [], (1.0,), ((),), ("1",),
                (2, 1, 0, 0, 0), deep_tuple(100)):
            with self.subTest(path):
                self.assertEqual(raised(self, NotFormula, numbers_of_part, formula, path).path, path)
        self.assertEqual(len(numbers_of_part(formula, (2, 1, 0, 1))), 5)

    def test_each_path(self):
        formula = ("over", A, ("table", ((A, B),)))
        found = [numbers_of_part(formula, path) for path in paths_of(formula)]
        numbers = [number for own in found for number in own]
        self.assertEqual(len(set(numbers)), len(numbers))


if __name__ == "__main__":
    unittest.main()
