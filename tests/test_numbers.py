import unittest
from fractions import Fraction

from everyfont.errors import NotNumber
from everyfont.numbers import added, check_fraction, compared, divided, halfway, lowest, minus, times
from wrong import ANYTHING, deep_tuple, raised

LONG = 10 ** 400 + 7
SOME = [(0, 1), (1, 1), (-1, 1), (1, 2), (-1, 2), (2, 3), (-7, 6), (22, 7), (LONG, 3), (-5, LONG), (1, 10 ** 300)]


def pair(number):
    return (number.numerator, number.denominator)


class Lowest(unittest.TestCase):
    def test_by_hand(self):
        cases = {
            (6, 4): (3, 2), (3, 2): (3, 2), (-6, 4): (-3, 2), (6, -4): (-3, 2), (-6, -4): (3, 2),
            (0, 5): (0, 1), (0, -5): (0, 1), (5, 5): (1, 1), (7, 1): (7, 1), (7, -1): (-7, 1), (4, 2): (2, 1),
        }
        for (top, bottom), number in cases.items():
            with self.subTest(top=top, bottom=bottom):
                self.assertEqual(lowest(top, bottom), number)

    def test_long_integers(self):
        self.assertEqual(lowest(6 * LONG, -4 * LONG), (-3, 2))
        self.assertEqual(lowest(LONG, LONG + 1), (LONG, LONG + 1))

    def test_bottom_0(self):
        for top in (0, 1, -1, LONG):
            self.assertEqual(raised(self, NotNumber, lowest, top, 0).value, 0)

    def test_names(self):
        self.assertEqual(lowest(bottom=4, top=2), (1, 2))


class Reckoning(unittest.TestCase):
    def test_by_hand(self):
        half, third, less = (1, 2), (1, 3), (-3, 4)
        self.assertEqual(added(half, third), (5, 6))
        self.assertEqual(added(half, half), (1, 1))
        self.assertEqual(added(half, less), (-1, 4))
        self.assertEqual(minus(half, third), (1, 6))
        self.assertEqual(minus(third, half), (-1, 6))
        self.assertEqual(minus(half, half), (0, 1))
        self.assertEqual(times(half, third), (1, 6))
        self.assertEqual(times((2, 3), less), (-1, 2))
        self.assertEqual(times((0, 1), less), (0, 1))
        self.assertEqual(divided(half, third), (3, 2))
        self.assertEqual(divided(half, less), (-2, 3))
        self.assertEqual(divided((0, 1), less), (0, 1))
        self.assertEqual(halfway(half, third), (5, 12))
        self.assertEqual(halfway(third, half), (5, 12))
        self.assertEqual(halfway(half, half), half)
        self.assertEqual(halfway((-1, 2), half), (0, 1))

    def test_divided_by_0(self):
        for one in SOME:
            self.assertEqual(raised(self, NotNumber, divided, one, (0, 1)).value, (0, 1))

    def test_against_python(self):
        for one in SOME:
            for other in SOME:
                first, second = Fraction(*one), Fraction(*other)
                with self.subTest(one=one, other=other):
                    self.assertEqual(added(one, other), pair(first + second))
                    self.assertEqual(minus(one, other), pair(first - second))
                    self.assertEqual(times(one, other), pair(first * second))
                    self.assertEqual(halfway(one, other), pair((first + second) / 2))
                    if second:
                        self.assertEqual(divided(one, other), pair(first / second))

    def test_names(self):
        for function in (added, minus, times, divided, halfway, compared):
            self.assertEqual(function(other=(1, 3), one=(1, 2)), function((1, 2), (1, 3)))


class Compared(unittest.TestCase):
    def test_by_hand(self):
        self.assertEqual(compared((1, 3), (1, 2)), -1)
        self.assertEqual(compared((1, 2), (1, 2)), 0)
        self.assertEqual(compared((1, 2), (1, 3)), 1)
        self.assertEqual(compared((-1, 2), (-1, 3)), -1)
        self.assertEqual(compared((-1, 2), (0, 1)), -1)
        self.assertEqual(compared((0, 1), (-5, LONG)), 1)

    def test_against_python(self):
        for one in SOME:
            for other in SOME:
                first, second = Fraction(*one), Fraction(*other)
                self.assertEqual(compared(one, other), (first > second) - (first < second))

    def test_it_is_an_integer(self):
        for other in ((0, 1), (1, 2), (1, 1)):
            self.assertIs(type(compared((1, 2), other)), int)


class CheckFraction(unittest.TestCase):
    def test_fractions(self):
        for value in SOME + [(-3, 1), (0, 1), (10 ** 3999, 1), (1, 10 ** 3999)]:
            self.assertIs(check_fraction(value), value)
        self.assertEqual(check_fraction(value=(2, 3)), (2, 3))

    def test_not_lowest(self):
        for value in ((2, 4), (0, 2), (-2, 4), (LONG, LONG), (3 * LONG, 3)):
            self.assertEqual(raised(self, NotNumber, check_fraction, value).value, value)

    def test_bottom_below_1(self):
        for value in ((1, 0), (0, 0), (1, -1), (-1, -2), (0, -1), (2, -3)):
            self.assertEqual(raised(self, NotNumber, check_fraction, value).value, value)

    def test_other_values(self):
        wrong = ANYTHING + (
            [1, 2], (1,), (1, 2, 3), (), (True, 1), (1, True), (True, True), (False, 1), ("1", "2"),
            ((1, 2), 3), (1, (2, 3)), ((1, 2), (1, 3)), deep_tuple(100),
        )
        for value in wrong:
            with self.subTest(value):
                self.assertIs(raised(self, NotNumber, check_fraction, value).value, value)

    def test_lists_stay_as_they_are(self):
        value = [2, [4]]
        raised(self, NotNumber, check_fraction, value)
        self.assertEqual(value, [2, [4]])


if __name__ == "__main__":
    unittest.main()
