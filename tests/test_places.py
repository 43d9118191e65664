import unittest
from fractions import Fraction

from chance import as_fraction, some_font, some_formulas
from everyfont.boxes import box_at, box_of
from everyfont.errors import NotFont, NotFormula
from everyfont.fonts import needed
from everyfont.formulas import level_at, part_at, paths_of
from everyfont.places import place_of, sides_of
from measures import measured
from test_boxes import A, B, C, D, E, FONT
from wrong import ANYTHING, deep_tuple, raised

TABLE = ("table", ((A, B), (C, E)))


def numbers(*values):
    """Return FRACTIONS of Python's numbers."""
    return tuple(as_fraction(value) for value in values)


class ByHand(unittest.TestCase):
    def are_at(self, formula, places):
        for path, place in places.items():
            with self.subTest(formula, path=path):
                self.assertEqual(place_of(formula, FONT, path), numbers(*place))

    def test_places(self):
        self.are_at(A, {(): (0, 0)})
        self.are_at(("row", A, B, C), {(): (0, 0), (1,): (0, 0), (2,): (14, 0), (3,): (24, 0)})
        self.are_at(("over", C, A), {(): (0, 0), (1,): (Fraction(5, 2), 11), (2,): (2, -5)})
        self.are_at(("root", A), {(1,): (3, 0)})
        self.are_at(("fence", A), {(1,): (3, 0)})
        self.are_at(("bar", A), {(1,): (0, 0)})
        self.are_at(("high", E, A), {(1,): (0, 0), (2,): (2, 13)})
        self.are_at(("low", A, B), {(1,): (0, 0), (2,): (10, -5)})
        self.are_at(("both", A, B, C), {(1,): (0, 0), (2,): (10, -5), (3,): (10, 7)})
        self.are_at(("under", "b", D), {(): (0, 0), (2,): (0, -11)})
        self.are_at(("upper", "a", C), {(2,): (3, 15)})
        self.are_at(("limits", "a", B, C), {(2,): (Fraction(7, 2), -10), (3,): (3, 15)})
        self.are_at(
            TABLE, {(1, 0, 0): (3, 14), (1, 0, 1): (19, 14), (1, 1, 0): (Fraction(11, 2), -10), (1, 1, 1): (21, -10)})

    def test_places_in_places(self):
        self.are_at(("root", ("fence", A)), {(1,): (3, 0), (1, 1): (6, 0)})
        self.are_at(("row", C, ("over", C, A)), {(2,): (9, 0), (2, 1): (Fraction(23, 2), 11), (2, 2): (11, -5)})
        self.are_at(("row", A, TABLE), {(2,): (14, 0), (2, 1, 1, 1): (35, -10), (2, 1, 0, 1): (33, 14)})

    def test_sides(self):
        self.assertEqual(sides_of(A, FONT, ()), numbers(0, 10, 0, 8, -2))
        self.assertEqual(sides_of(("over", C, A), FONT, ()), numbers(0, 9, 0, 13, -6))
        self.assertEqual(sides_of(("over", C, A), FONT, (1,)), numbers(Fraction(5, 2), Fraction(13, 2), 11, 13, 6))
        self.assertEqual(sides_of(("over", C, A), FONT, (2,)), numbers(2, 7, -5, -1, -6))
        self.assertEqual(sides_of(TABLE, FONT, (1, 1, 0)), numbers(Fraction(11, 2), Fraction(21, 2), -10, -6, -19))
        self.assertEqual(sides_of(("row", A, TABLE), FONT, (2, 1, 1, 1)), numbers(35, 37, -10, 10, -11))

    def test_names(self):
        self.assertEqual(place_of(path=(1,), font=FONT, formula=("root", A)), numbers(3, 0))
        self.assertEqual(sides_of(path=(1,), font=FONT, formula=("root", A)), numbers(3, 13, 0, 8, -2))


class Wrong(unittest.TestCase):
    def test_what_the_font_lacks_comes_first(self):
        for function in (place_of, sides_of):
            for path in ANYTHING + ((1,), ()):
                with self.subTest(path, function=function):
                    self.assertEqual(raised(self, NotFont, function, D, FONT, path).name, ("deep", "d", 0))
            self.assertEqual(raised(self, NotFont, function, ("root", A), (), (1,)).name, ("deep", "a", 0))

    def test_paths_that_lead_nowhere(self):
        wrong = ANYTHING + (
            (0,), (4,), (-1,), (True,), (1.0,), (1, 1), (2, 1), (2, 0, 0), (2, 1, 0, 2), (2, 1, 2, 0), (2, 1, -1, 0),
            (2, True, 0, 0), (2, 1, 0, False), (3, 1), (3, 4), "2", [2], (None,), ((1,),), (10 ** 3999,), deep_tuple(100))
        for function in (place_of, sides_of):
            for path in wrong:
                with self.subTest(path, function=function):
                    self.assertIs(raised(self, NotFormula, function, ("row", A, TABLE), FONT, path).path, path)
            self.assertEqual(raised(self, NotFormula, function, A, FONT, (1,)).path, (1,))
            self.assertEqual(raised(self, NotFormula, function, ("under", "a", B), FONT, (1,)).path, (1,))


class Facts(unittest.TestCase):
    def served(self, many, seed):
        """Return FORMULAS with a FONT each."""
        for formula, chance in some_formulas(many, seed):
            yield formula, some_font(chance, needed(formula), chance.random() < 0.7)

    def test_places_are_those_of_the_steps(self):
        for formula, font in self.served(100, 1):
            for path, level, wide, high, deep, left, base in measured(formula, font):
                self.assertEqual(level_at(formula, path), level)
                self.assertEqual(place_of(formula, font, path), numbers(left, base))
                self.assertEqual(
                    sides_of(formula, font, path), numbers(left, left + wide, base, base + high, base - deep))

    def test_the_whole_is_at_the_beginning(self):
        for formula, font in self.served(30, 2):
            wide, high, deep, _ = box_of(formula, font)
            self.assertEqual(place_of(formula, font, ()), ((0, 1), (0, 1)))
            self.assertEqual(sides_of(formula, font, ()), ((0, 1), wide, (0, 1), high, (-deep[0], deep[1])))

    def test_the_items_of_a_part_are_in_the_whole(self):
        for formula, font in self.served(60, 3):
            left = list(box_of(formula, font)[3])
            for path in paths_of(formula):
                x, y = (Fraction(*number) for number in place_of(formula, font, path))
                rest = list(left)
                for own_x, own_y, thing in box_at(part_at(formula, path), level_at(formula, path), font)[3]:
                    rest.remove((as_fraction(x + Fraction(*own_x)), as_fraction(y + Fraction(*own_y)), thing))

    def test_equal_calls_return_equal_results(self):
        for formula, font in self.served(10, 4):
            path = paths_of(formula)[-1]
            self.assertEqual(place_of(formula, font, path), place_of(formula, font, path))
            self.assertIs(type(place_of(formula, font, path)), tuple)
            self.assertIs(type(sides_of(formula, font, path)), tuple)


if __name__ == "__main__":
    unittest.main()
