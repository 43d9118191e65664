import unittest
from fractions import Fraction
from random import Random

from everyfont.errors import NotRow
from everyfont.points import point_of
from everyfont.rows import (
    check_row, coefficients_of, row_added, row_minus, row_of, row_sign, row_through, row_times, row_value)
from wrong import ANYTHING, deep_tuple, raised

LONG = 10 ** 300 + 1


def some_numbers(chance, many):
    """Return a tuple of FRACTIONS."""
    numbers = [Fraction(chance.randint(-9, 9), chance.randint(1, 6)) for _ in range(many)]
    return tuple((number.numerator, number.denominator) for number in numbers)


def value_by_hand(row, point):
    """Return the value as the document tells it."""
    numbers = [Fraction(top, point[-1]) for top in point[:-1]]
    total = sum((weight * number for weight, number in zip(row[:-2], numbers)), Fraction(row[-2])) / row[-1]
    return (total.numerator, total.denominator)


class CheckRow(unittest.TestCase):
    def place(self, size, value):
        return raised(self, NotRow, check_row, size, value).place

    def test_rows(self):
        for size, value in ((2, (1, 2, 3, 4)), (1, (0, 0, 1)), (0, (5, 2)), (0, (0, 1)), (1, (-LONG, 2, 2)), (1, (2, 4, 3))):
            self.assertIs(check_row(size, value), value)
        many = tuple(range(-100, 100)) + (0, 1)
        self.assertIs(check_row(200, many), many)
        self.assertEqual(check_row(value=(1, 2, 3), size=1), (1, 2, 3))

    def test_no_tuple_of_so_many(self):
        for size, value in ((2, (1, 2, 1)), (2, (1, 2, 3, 4, 5)), (0, ()), (0, (1,)), (1, [1, 2, 3]), (1, (None, None))):
            self.assertEqual(self.place(size, value), -1)

    def test_any_value(self):
        for value in ANYTHING + (deep_tuple(100),):
            with self.subTest(value):
                self.assertEqual(self.place(7, value), -1)

    def test_the_first_that_is_no_integer(self):
        cases = (
            ((True, 2, 3, 4), 0), ((1, False, 3, 4), 1), ((1, 2, "3", 4), 2), ((1, 2, 3, True), 3),
            ((1, None, None, 0), 1), ((1, 2, (3,), 0), 2), ((2, 4, 6, 8.0), 3),
        )
        for value, place in cases:
            with self.subTest(value):
                self.assertEqual(self.place(2, value), place)
        self.assertEqual(self.place(0, (1, [1])), 1)

    def test_the_last_one_below_1(self):
        self.assertEqual(self.place(2, (1, 2, 3, 0)), 3)
        self.assertEqual(self.place(2, (2, 2, 2, -2)), 3)
        self.assertEqual(self.place(0, (1, -1)), 1)
        self.assertEqual(self.place(0, (0, 0)), 1)

    def test_a_common_divisor(self):
        self.assertEqual(self.place(2, (2, 4, 6, 2)), -2)
        self.assertEqual(self.place(2, (0, 0, 0, 3)), -2)
        self.assertEqual(self.place(0, (2, 2)), -2)
        self.assertEqual(self.place(1, (LONG, 2 * LONG, 3 * LONG)), -2)


class RowOf(unittest.TestCase):
    def test_by_hand(self):
        cases = {
            ((1, 2), (1, 3), (2, 1)): (3, 2, 12, 6),
            ((1, 2), (3, 2)): (1, 3, 2),
            ((0, 1), (0, 1)): (0, 0, 1),
            ((-1, 4),): (-1, 4),
            ((2, 1), (4, 1)): (2, 4, 1),
            ((LONG, 2), (1, 10)): (5 * LONG, 1, 10),
        }
        for numbers, row in cases.items():
            with self.subTest(numbers):
                self.assertEqual(row_of(numbers), row)
                self.assertEqual(coefficients_of(row), numbers)
                self.assertEqual(check_row(len(numbers) - 1, row), row)

    def test_names(self):
        self.assertEqual(row_of(numbers=((1, 2), (1, 1))), (1, 2, 2))
        self.assertEqual(coefficients_of(row=(1, 2, 2)), ((1, 2), (1, 1)))


class RowValue(unittest.TestCase):
    def test_by_hand(self):
        # (2x + 3y - 4) / 5 at x = 1/2, y = 5/2: (1 + 15/2 - 4) / 5 = 9/10.
        self.assertEqual(row_value((2, 3, -4, 5), (1, 5, 2)), (9, 10))
        self.assertEqual(row_sign((2, 3, -4, 5), (1, 5, 2)), 1)
        self.assertEqual(row_value((1, -1, 0, 1), (7, 7, 3)), (0, 1))
        self.assertEqual(row_sign((1, -1, 0, 1), (7, 7, 3)), 0)
        self.assertEqual(row_value((1, -3, 2), (1, 1)), (-1, 1))
        self.assertEqual(row_sign((1, -3, 2), (1, 1)), -1)
        self.assertEqual(row_value((1, -3, 2), (1, 3)), (-4, 3))

    def test_no_unknowns(self):
        for row, value, sign in (((5, 2), (5, 2), 1), ((0, 1), (0, 1), 0), ((-4, 3), (-4, 3), -1)):
            self.assertEqual(row_value(row, (1,)), value)
            self.assertEqual(row_sign(row, (1,)), sign)

    def test_long_integers(self):
        self.assertEqual(row_value((LONG, 0, 1), (1, LONG)), (1, 1))
        self.assertEqual(row_sign((LONG, -1, 1), (1, LONG)), 0)
        self.assertEqual(row_sign((LONG, -1, 1), (1, LONG + 1)), -1)

    def test_against_python(self):
        chance = Random(1)
        for _ in range(60):
            size = chance.randint(0, 6)
            row, point = row_of(some_numbers(chance, size + 1)), point_of(some_numbers(chance, size))
            value = value_by_hand(row, point)
            self.assertEqual(row_value(row, point), value)
            self.assertEqual(row_sign(row, point), (value[0] > 0) - (value[0] < 0))

    def test_names(self):
        self.assertEqual(row_value(point=(1, 1), row=(1, -3, 2)), (-1, 1))
        self.assertEqual(row_sign(point=(1, 1), row=(1, -3, 2)), -1)


class RowReckoning(unittest.TestCase):
    def test_by_hand(self):
        # x/2 + 1 and x/3 - y - 1/3.
        one, other = (1, 0, 2, 2), (1, -3, -1, 3)
        self.assertEqual(row_added(one, other), (5, -6, 4, 6))
        self.assertEqual(row_minus(one, other), (1, 6, 8, 6))
        self.assertEqual(row_minus(other, one), (-1, -6, -8, 6))
        self.assertEqual(row_added(one, one), (1, 0, 2, 1))
        self.assertEqual(row_minus(one, one), (0, 0, 0, 1))
        self.assertEqual(row_times(one, (2, 3)), (1, 0, 2, 3))
        self.assertEqual(row_times(one, (-2, 1)), (-1, 0, -2, 1))
        self.assertEqual(row_times(one, (0, 1)), (0, 0, 0, 1))
        self.assertEqual(row_times((1, 2), (4, 3)), (2, 3))
        self.assertEqual(row_added((1, 2), (1, 2)), (1, 1))

    def test_through_by_hand(self):
        # u/2 - v + 3 with u = x + 1, v = (y - x) / 3: x/2 + 1/2 - y/3 + x/3 + 3 = (5x - 2y + 21) / 6.
        self.assertEqual(row_through((1, -2, 6, 2), ((1, 0, 1, 1), (-1, 1, 0, 3))), (5, -2, 21, 6))
        self.assertEqual(row_through((2, 1, 3), ((3, -1, 2),)), (1, 0, 1))
        self.assertEqual(row_through((2, 0, 1), ((3, 2),)), (3, 1))
        self.assertEqual(row_through((0, 0, 5, 7), ((1, 1, 1), (2, 1, 3))), (0, 5, 7))
        self.assertEqual(row_through((LONG, 0, 1), ((1, 0, LONG),)), (1, 0, 1))

    def test_the_values_are_so(self):
        chance = Random(2)
        for _ in range(60):
            size = chance.randint(0, 5)
            one, other = row_of(some_numbers(chance, size + 1)), row_of(some_numbers(chance, size + 1))
            point, (factor,) = point_of(some_numbers(chance, size)), some_numbers(chance, 1)
            first, second = Fraction(*row_value(one, point)), Fraction(*row_value(other, point))
            for row, value in (
                    (row_added(one, other), first + second), (row_minus(one, other), first - second),
                    (row_times(one, factor), first * Fraction(*factor))):
                self.assertEqual(check_row(size, row), row)
                self.assertEqual(Fraction(*row_value(row, point)), value)

    def test_the_value_through_rows_is_so(self):
        chance = Random(3)
        for _ in range(60):
            outer, inner = chance.randint(1, 5), chance.randint(0, 4)
            row = row_of(some_numbers(chance, outer + 1))
            rows = tuple(row_of(some_numbers(chance, inner + 1)) for _ in range(outer))
            point = point_of(some_numbers(chance, inner))
            through = row_through(row, rows)
            self.assertEqual(check_row(inner, through), through)
            values = point_of(tuple(row_value(own, point) for own in rows))
            self.assertEqual(row_value(through, point), row_value(row, values))

    def test_like_values_are_one_row(self):
        self.assertEqual(row_added((1, 0, 2, 2), (1, 0, 2, 2)), row_times((1, 0, 2, 2), (2, 1)))
        self.assertEqual(row_through((1, 1, 0, 1), ((1, 1, 3), (2, 2, 3))), row_of(((1, 1), (1, 1))))

    def test_names(self):
        self.assertEqual(row_added(other=(1, 2), one=(1, 3)), (5, 6))
        self.assertEqual(row_minus(other=(1, 2), one=(1, 3)), (-1, 6))
        self.assertEqual(row_times(value=(1, 2), row=(1, 3)), (1, 6))
        self.assertEqual(row_through(rows=((1, 3),), row=(1, 0, 2)), (1, 6))


if __name__ == "__main__":
    unittest.main()
