import unittest

from everyfont.errors import NotFont, NotName
from everyfont.fonts import check_font, check_name, cut_font, is_lawful, needed, number_of, put_font, times_font
from wrong import ANYTHING, deep_tuple, raised

A, B, C, D = ("sign", "a"), ("sign", "b"), ("sign", "c"), ("sign", "d")
LEVEL_WORDS = ("axis", "rule", "gap", "space", "rise", "fall")
SIGN_WORDS = ("wide", "high", "deep")
LONG = 10 ** 300 + 1

FONT = (
    (("axis", 0), (1, 4)), (("deep", "a", 0), (0, 1)), (("gap", 0), (1, 10)), (("high", "a", 0), (2, 3)),
    (("space", 0), (0, 1)), (("wide", "a", 0), (1, 2)),
)


def sign_names(sign, level):
    """Return the three NAMES of a sign."""
    return {(word, sign, level) for word in SIGN_WORDS}


def level_names(level, *words):
    """Return the NAMES of a level with these words."""
    return {(word, level) for word in words}


class CheckName(unittest.TestCase):
    def test_names(self):
        for level in range(8):
            for word in LEVEL_WORDS:
                self.assertEqual(check_name((word, level)), (word, level))
            for word in SIGN_WORDS:
                for sign in ("a", "z", "abcdefgh"):
                    self.assertEqual(check_name((word, sign, level)), (word, sign, level))
        self.assertEqual(check_name(value=("gap", 0)), ("gap", 0))

    def test_other_values(self):
        wrong = ANYTHING + (
            (), ("axis",), ("axis", 0, 0), ("axis", "a", 0), ("wide", 0), ("wide", "a"), ("wide", "a", 0, 0), ["gap", 0],
            ("gap", -1), ("gap", 8), ("gap", True), ("gap", False), ("gap", "0"), ("gap", None), ("gap", 0.0), ("gap", (0,)),
            ("wide", "a", -1), ("wide", "a", 8), ("wide", "a", True), ("wide", "a", None), ("wide", "", 0),
            ("wide", "abcdefghi", 0), ("wide", "A", 0), ("wide", 1, 0), ("wide", ("a",), 0), ("wide", ["a"], 0),
            ("Gap", 0), ("", 0), ("sign", "a", 0), ("sign", "a"), ("width", "a", 0), (["gap"], 0), (None, 0), (("gap", 0), 0),
            ("low", 0), ("high", 0), (True, 0), ("deep", 0, "a"), deep_tuple(100),
        )
        for value in wrong:
            with self.subTest(value):
                self.assertIs(raised(self, NotName, check_name, value).name, value)


class CheckFont(unittest.TestCase):
    def fault(self, value):
        return raised(self, NotFont, check_font, value).name

    def test_fonts(self):
        for font in ((), FONT, FONT[:1], ((("gap", 0), (-1, 2)), (("gap", 7), (0, 1)), (("wide", "a", 0), (-LONG, 2)))):
            self.assertIs(check_font(font), font)
        names = sorted({(word, level) for word in LEVEL_WORDS for level in range(8)})
        many = tuple((name, (1, number + 1)) for number, name in enumerate(names))
        self.assertIs(check_font(many), many)
        self.assertEqual(check_font(value=()), ())

    def test_signs_ascend_ahead_of_levels(self):
        font = ((("wide", "a", 3), (1, 1)), (("wide", "aa", 0), (1, 1)), (("wide", "b", 0), (1, 1)))
        self.assertEqual(check_font(font), font)
        self.assertEqual(self.fault((font[1], font[0])), 1)

    def test_no_tuple(self):
        for value in ANYTHING + ([(("gap", 0), (1, 1))],):
            if not isinstance(value, tuple):
                with self.subTest(value):
                    self.assertIsNone(self.fault(value))

    def test_things_that_are_no_pairs(self):
        wrong = ANYTHING + (
            [("gap", 1), (1, 2)], (("gap", 1),), (("gap", 1), (1, 2), (1, 2)), (("gap", 1), (2, 4)), (("gap", 1), (1, 0)),
            (("gap", 1), 1), (("gap", 1), [1, 2]), (("gap", 1), (True, 1)), (("gap", 1), (1, -2)), (["gap", 1], (1, 2)),
            (("gap", 8), (1, 2)), (("gap", True), (1, 2)), (("wide", "", 0), (1, 2)), ((1, 2), ("gap", 1)), (None, (1, 2)),
            deep_tuple(99),
        )
        for thing in wrong:
            with self.subTest(thing):
                self.assertEqual(self.fault((thing,)), 0)
                self.assertEqual(self.fault(((("gap", 0), (1, 1)), thing, None)), 1)

    def test_names_that_do_not_ascend(self):
        axis, gap, other = (("axis", 0), (1, 1)), (("gap", 0), (1, 1)), (("gap", 0), (2, 1))
        self.assertEqual(self.fault((gap, axis)), 1)
        self.assertEqual(self.fault((axis, gap, gap)), 2)
        self.assertEqual(self.fault((axis, gap, other)), 2)
        self.assertEqual(self.fault((axis, gap, axis, None)), 2)
        self.assertEqual(self.fault((gap, axis, axis)), 1)
        self.assertEqual(self.fault(((("gap", 1), (1, 1)), (("gap", 0), (1, 1)))), 1)
        self.assertEqual(self.fault((gap, None, axis)), 1)


class IsLawful(unittest.TestCase):
    def test_numbers_of_each_word(self):
        names = [(word, 3) for word in LEVEL_WORDS] + [(word, "a", 3) for word in SIGN_WORDS]
        for name in names:
            with self.subTest(name):
                self.assertIs(is_lawful(((name, (1, LONG)),)), True)
                self.assertIs(is_lawful(((name, (0, 1)),)), name[0] in ("deep", "space"))
                self.assertIs(is_lawful(((name, (-1, LONG)),)), False)

    def test_all_pairs_count(self):
        self.assertIs(is_lawful(FONT), True)
        self.assertIs(is_lawful(()), True)
        self.assertIs(is_lawful(FONT[:-1] + ((("wide", "a", 0), (0, 1)),)), False)
        self.assertIs(is_lawful(((("axis", 0), (-1, 4)),) + FONT[1:]), False)
        self.assertIs(is_lawful(font=FONT), True)


class OfFonts(unittest.TestCase):
    def test_number_of(self):
        for name, number in FONT:
            self.assertEqual(number_of(FONT, name), number)
        for name in (("gap", 1), ("wide", "b", 0), ("rise", 0), ("wide", "a", 1)):
            self.assertEqual(raised(self, NotFont, number_of, FONT, name).name, name)
        self.assertEqual(raised(self, NotFont, number_of, (), ("gap", 0)).name, ("gap", 0))
        self.assertEqual(number_of(name=("gap", 0), font=FONT), (1, 10))

    def test_times_font(self):
        self.assertEqual(times_font(FONT, (4, 1)), (
            (("axis", 0), (1, 1)), (("deep", "a", 0), (0, 1)), (("gap", 0), (2, 5)), (("high", "a", 0), (8, 3)),
            (("space", 0), (0, 1)), (("wide", "a", 0), (2, 1))))
        self.assertEqual(times_font(((("gap", 0), (2, 3)),), (-3, 4)), ((("gap", 0), (-1, 2)),))
        self.assertEqual(times_font(((("gap", 0), (2, 3)),), (0, 1)), ((("gap", 0), (0, 1)),))
        self.assertEqual(times_font(FONT, (1, 1)), FONT)
        self.assertEqual(times_font((), (5, 1)), ())
        self.assertEqual(times_font(value=(1, 2), font=((("gap", 0), (1, 1)),)), ((("gap", 0), (1, 2)),))

    def test_put_font(self):
        one = ((("axis", 0), (1, 1)), (("gap", 0), (2, 1)), (("wide", "b", 0), (3, 1)))
        other = ((("gap", 0), (4, 1)), (("rise", 0), (5, 1)), (("wide", "a", 7), (6, 1)))
        self.assertEqual(put_font(one, other), (
            (("axis", 0), (1, 1)), (("gap", 0), (4, 1)), (("rise", 0), (5, 1)), (("wide", "a", 7), (6, 1)),
            (("wide", "b", 0), (3, 1))))
        self.assertEqual(put_font(other, one)[1], (("gap", 0), (2, 1)))
        self.assertEqual(put_font((), one), one)
        self.assertEqual(put_font(one, ()), one)
        self.assertEqual(put_font((), ()), ())
        self.assertEqual(put_font(one, one), one)
        self.assertEqual(put_font(other=other, font=one), put_font(one, other))
        self.assertEqual(check_font(put_font(FONT, one)), put_font(FONT, one))

    def test_cut_font(self):
        self.assertEqual(cut_font(FONT, (("gap", 0), ("axis", 0))), (FONT[0], FONT[2]))
        self.assertEqual(cut_font(FONT, (("gap", 0), ("gap", 0), ("gap", 1))), (FONT[2],))
        self.assertEqual(cut_font(FONT, ()), ())
        self.assertEqual(cut_font((), (("gap", 0),)), ())
        self.assertEqual(cut_font(FONT, tuple(name for name, _ in FONT)), FONT)
        self.assertEqual(cut_font(names=(("gap", 0),), font=FONT), (FONT[2],))

    def test_what_was_passed_stays(self):
        before = tuple(FONT)
        put_font(FONT, ((("gap", 0), (9, 1)),))
        times_font(FONT, (2, 1))
        cut_font(FONT, ())
        self.assertEqual(FONT, before)

    def test_tuples_are_returned(self):
        for font in (times_font(FONT, (1, 2)), put_font(FONT, FONT), cut_font(FONT, (("gap", 0),))):
            self.assertIs(type(font), tuple)
            self.assertEqual(check_font(font), font)


class Needed(unittest.TestCase):
    def needs(self, formula, *sets):
        self.assertEqual(needed(formula), tuple(sorted(set().union(*sets))))

    def test_signs(self):
        self.assertEqual(needed(A), (("deep", "a", 0), ("high", "a", 0), ("wide", "a", 0)))
        self.assertEqual(needed(formula=A), needed(A))

    def test_each_word(self):
        at_0, at_1 = sign_names("a", 0), sign_names("b", 1)
        self.needs(("row", A), at_0)
        self.needs(("row", A, A), at_0, level_names(0, "space"))
        self.needs(("row", A, B, A), at_0, sign_names("b", 0), level_names(0, "space"))
        self.needs(("over", B, B), at_1, level_names(0, "axis", "rule", "gap", "rise", "fall"))
        for word in ("root", "fence", "bar"):
            self.needs((word, A), at_0, level_names(0, "rule", "gap"))
        self.needs(("high", A, B), at_0, at_1, level_names(0, "rise"))
        self.needs(("low", A, B), at_0, at_1, level_names(0, "fall"))
        self.needs(("both", A, B, B), at_0, at_1, level_names(0, "rise", "fall"))
        self.needs(("under", "a", B), at_0, at_1, level_names(0, "fall", "gap"))
        self.needs(("upper", "a", B), at_0, at_1, level_names(0, "rise", "gap"))
        self.needs(("limits", "a", B, B), at_0, at_1, level_names(0, "rise", "fall", "gap"))

    def test_tables(self):
        rules = level_names(0, "axis", "rule", "gap")
        self.needs(("table", ((A,),)), sign_names("a", 0), rules)
        self.needs(("table", ((A,), (A,), (A,))), sign_names("a", 0), rules)
        self.needs(("table", ((A, B),)), sign_names("a", 0), sign_names("b", 0), rules, level_names(0, "space"))

    def test_levels_add_up(self):
        formula = ("over", ("row", A, ("high", B, C)), ("table", ((("upper", "sum", D),),)))
        self.needs(
            formula, level_names(0, "axis", "rule", "gap", "rise", "fall"), level_names(1, "space", "rise"),
            sign_names("a", 1), sign_names("b", 1), sign_names("c", 2), level_names(1, "axis", "rule", "gap"),
            sign_names("sum", 1), level_names(1, "rise", "gap"), sign_names("d", 2))

    def test_the_greatest_level(self):
        formula = A
        for _ in range(7):
            formula = ("high", B, formula)
        names = needed(formula)
        self.assertEqual({name[-1] for name in names if name[0] == "rise"}, set(range(7)))
        self.assertIn(("wide", "a", 7), names)
        self.assertNotIn(("wide", "a", 0), names)
        for name in names:
            self.assertEqual(check_name(name), name)

    def test_ascending_without_repetition(self):
        names = needed(("row", ("over", A, A), ("over", A, B), ("both", A, B, A)))
        self.assertEqual(list(names), sorted(set(names)))
        self.assertIs(type(names), tuple)
        self.assertEqual(names, needed(("row", ("over", A, A), ("over", A, B), ("both", A, B, A))))


if __name__ == "__main__":
    unittest.main()
