import unittest
from fractions import Fraction
from random import Random

from chance import lowest_row, some_row
from everyfont.errors import NotRow, TooGreat
from everyfont.rows import row_value
from everyfont.tops import check_top, top_added, top_joined, top_moved, top_rows_at, top_times, top_value
from wrong import ANYTHING, Within, deep_tuple, raised

X, Y, ONE, ZERO = (1, 0, 0, 1), (0, 1, 0, 1), (0, 0, 1, 1), (0, 0, 0, 1)
TOP = (ONE, Y, X)


def line(*slopes):
    """Return the TOP of one number of the ROWS with these whole slopes."""
    return tuple((slope, 0, 1) for slope in sorted(slopes))


class CheckTop(unittest.TestCase):
    def test_tops(self):
        for count, top in (
                (2, TOP), (2, (X,)), (1, line(*range(400))), (1, line(*range(401))), (0, ((0, 1), (1, 1), (1, 2))),
                (1, ((-1, 5, 1), (-1, 5, 2), (-1, 6, 1), (0, -3, 1))), (24, ((1,) * 26,)), (1, ((-10 ** 3999, 0, 1), (0, 10 ** 3999, 1)))):
            self.assertIs(check_top(count, top), top)
        self.assertIs(check_top(value=TOP, count=2), TOP)

    def test_no_tuple_of_one_thing(self):
        for value in ((), [], None, True, 1, "ab", [X], {X}, {X: 1}, b"", range(3), {}):
            with self.subTest(value):
                self.assertEqual(raised(self, NotRow, check_top, 2, value).place, -1)

    def test_things_that_are_no_rows(self):
        for thing in ANYTHING + (
                [0, 1, 0, 1], (0, 1, 0), (0, 1, 0, 1, 1), (0, 1, 0, 0), (0, 1, 0, -1), (0, 2, 0, 2), (0, True, 0, 1), (0, 1, 0, True), (0, 1, "", 1),
                deep_tuple(99), X[:3]):
            with self.subTest(thing):
                self.assertEqual(raised(self, NotRow, check_top, 2, (thing,)).place, 0)
                self.assertEqual(raised(self, NotRow, check_top, 2, (thing, None)).place, 0)
                self.assertEqual(raised(self, NotRow, check_top, 2, TOP + (thing,)).place, 3)
                self.assertEqual(raised(self, NotRow, check_top, 2, (ZERO, thing, X)).place, 1)

    def test_rows_that_are_not_greater(self):
        for value, number in (
                ((X, Y), 1), ((X, X), 1), (TOP + (X,), 3), (TOP + (Y,), 3), ((Y, ONE, None), 1), ((Y, None, ONE), 1),
                (((0, 0, 1, 2), (0, 0, 1, 1)), 1)):
            self.assertEqual(raised(self, NotRow, check_top, 2, value).place, number)

    def test_the_rows_of_another_size(self):
        self.assertEqual(raised(self, NotRow, check_top, 1, TOP).place, 0)
        self.assertEqual(raised(self, NotRow, check_top, 3, TOP).place, 0)
        self.assertEqual(raised(self, NotRow, check_top, 2, deep_tuple(100)).place, 0)

    def test_lists_stay_as_they_are(self):
        value = ([0, 1, 0, 1], [0, 0])
        raised(self, NotRow, check_top, 2, value)
        self.assertEqual(value, ([0, 1, 0, 1], [0, 0]))


class Values(unittest.TestCase):
    def test_by_hand(self):
        for point, value, numbers in (
                ((0, 0, 1), (1, 1), (0,)), ((3, 1, 2), (3, 2), (2,)), ((1, 3, 2), (3, 2), (1,)), ((3, 3, 1), (3, 1), (1, 2)),
                ((1, 1, 1), (1, 1), (0, 1, 2)), ((1, -5, 1), (1, 1), (0, 2)), ((-1, 1, 1), (1, 1), (0, 1))):
            self.assertEqual(top_value(TOP, point), value)
            self.assertEqual(top_rows_at(TOP, point), numbers)
        self.assertEqual(top_value(point=(1, 1, 1), top=TOP), (1, 1))
        self.assertEqual(top_rows_at(point=(1, 1, 1), top=TOP), (0, 1, 2))

    def test_values_below_0(self):
        top = ((-3, 0, 1), (-2, -1, 1), (1, -20, 3))
        self.assertEqual(top_value(top, (5, 1)), (-5, 1))
        self.assertEqual(top_rows_at(top, (5, 1)), (2,))
        self.assertEqual(top_rows_at(top, (-1, 2)), (0,))
        self.assertEqual(top_rows_at(top, (1, 1)), (0, 1))

    def test_no_unknowns(self):
        self.assertEqual(top_value(((1, 2), (2, 3), (5, 9)), (1,)), (2, 3))
        self.assertEqual(top_rows_at(((1, 2), (2, 3), (5, 9)), (1,)), (1,))

    def test_one_row(self):
        self.assertEqual(top_value((X,), (7, 0, 3)), (7, 3))
        self.assertEqual(top_rows_at((X,), (7, 0, 3)), (0,))


class Made(unittest.TestCase):
    def test_added(self):
        self.assertEqual(top_added(TOP, (X,)), ((1, 0, 1, 1), (1, 1, 0, 1), (2, 0, 0, 1)))
        self.assertEqual(top_added((Y, X), (Y, X)), ((0, 2, 0, 1), (1, 1, 0, 1), (2, 0, 0, 1)))
        self.assertEqual(top_added(((0, 1, 2),), ((0, 1, 2), (1, 1, 3))), ((0, 1, 1), (2, 5, 6)))
        self.assertEqual(top_added(((1, 2),), ((1, 2), (1, 3))), ((1, 1), (5, 6)))
        self.assertEqual(top_added(other=(X,), one=(Y,)), ((1, 1, 0, 1),))

    def test_joined(self):
        self.assertEqual(top_joined(TOP, (ZERO, Y)), (ZERO, ONE, Y, X))
        self.assertEqual(top_joined((X,), (X,)), (X,))
        self.assertEqual(top_joined(((0, 1, 2),), ((0, 1, 3),)), ((0, 1, 2), (0, 1, 3)))
        self.assertEqual(top_joined(other=(X,), one=(Y,)), (Y, X))

    def test_times(self):
        self.assertEqual(top_times(TOP, (2, 3)), ((0, 0, 2, 3), (0, 2, 0, 3), (2, 0, 0, 3)))
        self.assertEqual(top_times(TOP, (1, 1)), TOP)
        # As Python compares, (1, 3, 2) comes ahead of (2, 0, 1); times 2 it is (1, 3, 1), times 2/3 another one.
        self.assertEqual(top_times(((1, 3, 2), (2, 0, 1)), (2, 1)), ((1, 3, 1), (4, 0, 1)))
        self.assertEqual(top_times(((1, 5, 6), (2, 0, 3)), (3, 1)), ((1, 5, 2), (2, 0, 1)))
        self.assertEqual(top_times(((1, 0, 2), (2, 0, 3)), (1, 2)), ((1, 0, 3), (1, 0, 4)))
        self.assertEqual(top_times(value=(3, 1), top=(X,)), ((3, 0, 0, 1),))

    def test_moved(self):
        self.assertEqual(top_moved(TOP, (-1, 0, 1, 2)), ((-1, 0, 3, 2), (-1, 2, 1, 2), (1, 0, 1, 2)))
        self.assertEqual(top_moved(TOP, ZERO), TOP)
        # (0, 1, 2), (1, 0, 3) are 1/2 and x/3; with 1/2 they are 1 and (2x + 3)/6.
        self.assertEqual(top_moved(((0, 1, 2), (1, 0, 3)), (0, 1, 2)), ((0, 1, 1), (2, 3, 6)))
        self.assertEqual(top_moved(((1, 0, 2), (1, 0, 3)), (1, 0, 6)), ((1, 0, 2), (2, 0, 3)))
        self.assertEqual(top_moved(row=Y, top=(X,)), ((1, 1, 0, 1),))

    def test_400_and_401_rows(self):
        twenty, more = line(*range(20)), line(*range(0, 400, 20))
        self.assertEqual(top_added(twenty, more), line(*range(400)))
        self.assertEqual(raised(self, TooGreat, top_added, twenty + ((20, 1, 1),), more).most, 400)
        self.assertEqual(raised(self, TooGreat, top_added, twenty, more + ((400, 0, 1),)).most, 400)
        # Like sums count once: 201 by 200 ROWS with 400 sums.
        self.assertEqual(top_added(line(*range(201)), line(*range(200))), line(*range(400)))
        self.assertEqual(raised(self, TooGreat, top_added, line(*range(201)), line(*range(201))).most, 400)
        self.assertEqual(top_joined(line(*range(300)), line(*range(100, 400))), line(*range(400)))
        self.assertEqual(raised(self, TooGreat, top_joined, line(*range(300)), line(*range(100, 401))).most, 400)
        self.assertEqual(len(top_times(line(*range(401)), (1, 2))), 401)
        self.assertEqual(len(top_moved(line(*range(401)), (1, 0, 2))), 401)
        with Within(self, 5):
            raised(self, TooGreat, top_added, line(*range(400)), line(*range(400)))

    def test_facts(self):
        chance = Random(1)
        for _ in range(150):
            count = chance.randint(0, 3)
            one, other = (tuple(sorted({some_row(chance, count) for _ in range(chance.randint(1, 6))})) for _ in range(2))
            row, value = some_row(chance, count), (chance.randint(1, 5), 7)
            made = (top_added(one, other), top_joined(one, other), top_times(one, value), top_moved(one, row))
            for top in made:
                self.assertIs(check_top(count, top), top)
            for _ in range(5):
                point = lowest_row([chance.randint(-5, 5) for _ in range(count)] + [chance.randint(1, 3)])
                left, right = (Fraction(*top_value(top, point)) for top in (one, other))
                told = [Fraction(*top_value(top, point)) for top in made]
                self.assertEqual(told, [
                    left + right, max(left, right), left * Fraction(*value), left + Fraction(*row_value(row, point))])
                values = [Fraction(*row_value(own, point)) for own in one]
                self.assertEqual(left, max(values))
                self.assertEqual(top_rows_at(one, point), tuple(k for k, own in enumerate(values) if own == left))


if __name__ == "__main__":
    unittest.main()
