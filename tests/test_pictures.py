import unittest

from chance import some_formula, some_formulas
from everyfont.boxes import box_of
from everyfont.clear import clear_font
from everyfont.errors import NotFont, NotFormula, Unlike
from everyfont.fonts import is_lawful, needed
from everyfont.pictures import check_picture_font, is_one_picture, picture_font
from everyfont.plains import plain, table_path
from wrong import ANYTHING, deep_tuple, raised

A, B, C = ("sign", "a"), ("sign", "b"), ("sign", "c")
AB = ("row", A, B)
TABLE = ("table", ((A, B), (("root", A), A)))


def font_for(*formulas, **numbers):
    """Return the FONT of what some FORMULAS need: all 1, or what is told by the NAMES' first words."""
    names = sorted({name for formula in formulas for name in needed(formula)})
    return tuple((name, numbers.get(name[0], (1, 1))) for name in names)


class IsOnePicture(unittest.TestCase):
    def test_one_picture(self):
        for formula, other in (
                (A, A), (A, ("row", A)), (("row", ("row", A)), A), (AB, ("row", AB)), (("row", AB, C), ("row", A, ("row", B, C))),
                (("bar", ("row", A)), ("bar", A)), (("over", AB, ("row", C)), ("over", ("row", ("row", A), B), C)),
                (("limits", "a", ("row", B), C), ("limits", "a", B, ("row", ("row", C))))):
            for one, two in ((formula, other), (other, formula)):
                with self.subTest(one, other=two):
                    self.assertIs(is_one_picture(one, two), True)
                    self.assertIsNone(picture_font(one, two))
                    font = font_for(one, two)
                    raised(self, Unlike, check_picture_font, one, two, font)
                    raised(self, Unlike, check_picture_font, one, two, clear_font(tuple(name for name, _ in font)))

    def test_two_pictures(self):
        for formula, other in (
                (A, B), (AB, ("row", B, A)), (A, AB), (("bar", A), A), (("bar", AB), ("row", ("bar", A), B)), (("root", A), ("fence", A)),
                (("high", A, B), ("low", A, B)), (("high", A, B), AB), (("under", "a", B), ("upper", "a", B)), (("fence", AB), ("row", ("fence", A), B)),
                (("bar", ("high", A, B)), ("high", ("bar", A), B)), (("both", A, B, C), ("both", A, C, B)), (("over", A, B), ("over", B, A)),
                (("row", A, ("row", B, C)), ("row", A, ("bar", ("row", B, C)))), (("limits", "a", B, C), ("under", "a", B))):
            for one, two in ((formula, other), (other, formula)):
                with self.subTest(one, other=two):
                    self.assertIs(is_one_picture(one, two), False)
                    font = picture_font(one, two)
                    self.assertEqual(font, clear_font(tuple(sorted({*needed(one), *needed(two)}))))
                    self.assertEqual(picture_font(one, two), font)
                    self.assertTrue(is_lawful(font))
                    self.assertNotEqual(box_of(one, font)[3], box_of(two, font)[3])
                    self.assertIs(check_picture_font(one, two, font), True)

    def test_tables(self):
        for function in (is_one_picture, picture_font, lambda one, two: check_picture_font(one, two, None)):
            for formula, other, path in (
                    (TABLE, A, ()), (A, TABLE, ()), (TABLE, TABLE, ()), (("row", A, TABLE), TABLE, (2,)), (("over", ("bar", TABLE), TABLE), A, (1, 1)),
                    (A, ("limits", "a", A, TABLE), (3,)), (("table", ((TABLE,),)), A, ()), (("fence", TABLE), ("row", A, TABLE), (1,))):
                self.assertEqual(raised(self, NotFormula, function, formula, other).path, path)

    def test_names(self):
        self.assertIs(is_one_picture(other=B, formula=A), False)
        font = picture_font(other=B, formula=A)
        self.assertIs(check_picture_font(font=font, other=B, formula=A), True)

    def test_by_chance(self):
        told = {True: 0, False: 0}
        for formula, chance in some_formulas(400, 71):
            other = chance.choice((plain(formula), ("row", formula), some_formula(chance, 2, ("sign", "row", "high"))))
            if table_path(formula) is None and table_path(other) is None:
                found = is_one_picture(formula, other)
                told[found] += 1
                self.assertIs(found, plain(formula) == plain(other))
                font = picture_font(formula, other)
                self.assertEqual(font is None, found)
                if not found:
                    self.assertIs(check_picture_font(formula, other, font), True)
        self.assertGreater(min(told.values()), 30)


class CheckPictureFont(unittest.TestCase):
    def test_fonts(self):
        # Where "gap" and "rule" are told, a root and a fence differ; with all NAMES 1 the rows differ, too.
        self.assertIs(check_picture_font(("root", A), ("fence", A), font_for(("root", A))), True)
        self.assertIs(check_picture_font(AB, ("row", B, A), font_for(AB)), True)
        more = font_for(AB, ("fence", C))
        self.assertIs(check_picture_font(AB, ("row", B, A), more), True)

    def test_fonts_in_which_they_are_the_same(self):
        for one, two in (
                (("row", ("high", A, B)), ("high", A, B)), (("row", AB), AB), (("bar", ("row", A)), ("bar", A)),
                (("bar", ("bar", A)), ("bar", ("bar", ("row", A))))):
            raised(self, Unlike, check_picture_font, one, two, font_for(one, high=(3, 1)))
            raised(self, Unlike, check_picture_font, two, one, font_for(one, high=(3, 1), deep=(0, 1)))
        self.assertIs(check_picture_font(("row", A, A), ("row", A, A, A), font_for(("row", A, A))), True)

    def test_what_check_font_raises(self):
        for value in ANYTHING:
            wrong = raised(self, NotFont, check_picture_font, A, B, value)
            if isinstance(value, tuple):
                self.assertEqual(wrong.name, 0)
            else:
                self.assertIsNone(wrong.name)
        good = font_for(A, B)
        self.assertIsNone(raised(self, NotFont, check_picture_font, A, B, list(good)).name)
        self.assertEqual(raised(self, NotFont, check_picture_font, A, B, deep_tuple(100)).name, 0)
        for number in range(1, len(good)):
            self.assertEqual(raised(self, NotFont, check_picture_font, A, B, good[:number] + (None,) + good[number + 1:]).name, number)
            self.assertEqual(raised(self, NotFont, check_picture_font, A, B, good[:number] + good[number - 1:]).name, number)
            pair = (good[number][0], (True, 1))
            self.assertEqual(raised(self, NotFont, check_picture_font, A, B, good[:number] + (pair,)).name, number)

    def test_fonts_that_are_not_lawful(self):
        for numbers in ({"wide": (0, 1)}, {"high": (-1, 1)}, {"deep": (-1, 2)}):
            self.assertIsNone(raised(self, NotFont, check_picture_font, A, B, font_for(A, B, **numbers)).name)
            # It counts ahead of NAMES that lack.
            self.assertIsNone(raised(self, NotFont, check_picture_font, A, B, font_for(A, **numbers)).name)
        self.assertIsNone(raised(self, NotFont, check_picture_font, A, B, font_for(A, B) + ((("wide", "z", 0), (0, 1)),)).name)
        self.assertIs(check_picture_font(A, B, font_for(A, B, deep=(0, 1))), True)

    def test_names_that_lack(self):
        font = font_for(AB)
        for number, (name, _) in enumerate(font):
            fewer = font[:number] + font[number + 1:]
            self.assertEqual(raised(self, NotFont, check_picture_font, AB, A, fewer).name, name)
            self.assertEqual(raised(self, NotFont, check_picture_font, ("row", A), AB, fewer).name, name)
        self.assertEqual(raised(self, NotFont, check_picture_font, B, A, ()).name, ("deep", "b", 0))
        self.assertEqual(raised(self, NotFont, check_picture_font, B, A, font_for(B)).name, ("deep", "a", 0))
        self.assertEqual(raised(self, NotFont, check_picture_font, ("bar", B), A, font_for(B)).name, ("gap", 0))

    def test_lists_stay_as_they_are(self):
        font = list(font_for(A, B))
        raised(self, NotFont, check_picture_font, A, B, font)
        self.assertEqual(font, list(font_for(A, B)))


if __name__ == "__main__":
    unittest.main()
