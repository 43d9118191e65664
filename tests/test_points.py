import unittest

from everyfont.errors import NotPoint
from everyfont.points import check_point, numbers_of, point_of
from wrong import ANYTHING, deep_tuple, raised

LONG = 10 ** 300 + 1


class CheckPoint(unittest.TestCase):
    def place(self, size, value):
        return raised(self, NotPoint, check_point, size, value).place

    def test_points(self):
        for size, value in ((2, (1, 2, 3)), (2, (0, 0, 1)), (1, (-5, 2)), (0, (1,)), (1, (LONG, 2)), (3, (2, 4, 6, 3))):
            self.assertIs(check_point(size, value), value)
        many = tuple(range(200)) + (1,)
        self.assertIs(check_point(200, many), many)
        self.assertEqual(check_point(value=(1, 2), size=1), (1, 2))

    def test_no_tuple_of_so_many(self):
        for size, value in ((2, (1, 2)), (2, (1, 2, 3, 4)), (0, ()), (1, ()), (0, (1, 1)), (1, [1, 2]), (1, (1,))):
            self.assertEqual(self.place(size, value), -1)
        self.assertEqual(self.place(2, (None, None)), -1)

    def test_any_value(self):
        for value in ANYTHING + (deep_tuple(100),):
            with self.subTest(value):
                self.assertEqual(self.place(5, value), -1)

    def test_the_first_that_is_no_integer(self):
        cases = (
            ((True, 2, 3), 0), ((1, False, 3), 1), ((1, 2, True), 2), ((1, None, "3"), 1), ((1, 2, 3.0), 2),
            (((1,), (2,), 3), 0), ((1, "2", 3), 1), ((1, (2, 3), 0), 1), ((True, 2, 0), 0), ((2, 4, None), 2),
        )
        for value, place in cases:
            with self.subTest(value):
                self.assertEqual(self.place(2, value), place)
        self.assertEqual(self.place(2, (1, [2], 3)), 1)
        self.assertEqual(self.place(0, (True,)), 0)

    def test_the_last_one_below_1(self):
        self.assertEqual(self.place(2, (1, 2, 0)), 2)
        self.assertEqual(self.place(2, (1, 2, -3)), 2)
        self.assertEqual(self.place(2, (2, 4, -2)), 2)
        self.assertEqual(self.place(2, (0, 0, 0)), 2)
        self.assertEqual(self.place(0, (0,)), 0)
        self.assertEqual(self.place(0, (-1,)), 0)

    def test_a_common_divisor(self):
        self.assertEqual(self.place(2, (2, 4, 6)), -2)
        self.assertEqual(self.place(2, (0, 0, 2)), -2)
        self.assertEqual(self.place(2, (-3, 0, 3)), -2)
        self.assertEqual(self.place(0, (2,)), -2)
        self.assertEqual(self.place(1, (5 * LONG, 3 * LONG)), -2)


class PointOf(unittest.TestCase):
    def test_by_hand(self):
        cases = {
            ((1, 2), (1, 3)): (3, 2, 6),
            ((1, 2),): (1, 2),
            ((1, 2), (3, 2)): (1, 3, 2),
            ((1, 4), (-1, 6), (0, 1)): (3, -2, 0, 12),
            ((0, 1), (0, 1)): (0, 0, 1),
            ((2, 1), (4, 1)): (2, 4, 1),
            (): (1,),
            ((LONG, 2), (1, 10)): (5 * LONG, 1, 10),
        }
        for numbers, point in cases.items():
            with self.subTest(numbers):
                self.assertEqual(point_of(numbers), point)
                self.assertEqual(numbers_of(point), numbers)
                self.assertEqual(check_point(len(numbers), point), point)

    def test_numbers_are_lowest(self):
        self.assertEqual(numbers_of((2, 3, 6)), ((1, 3), (1, 2)))
        self.assertEqual(numbers_of((6, -4, 0, 2, 3)), ((2, 1), (-4, 3), (0, 1), (2, 3)))
        self.assertEqual(numbers_of((1,)), ())

    def test_many(self):
        numbers = tuple((1, bottom) for bottom in range(1, 120))
        self.assertEqual(numbers_of(point_of(numbers)), numbers)
        self.assertEqual(check_point(119, point_of(numbers)), point_of(numbers))

    def test_names(self):
        self.assertEqual(point_of(numbers=((1, 2),)), (1, 2))
        self.assertEqual(numbers_of(point=(1, 2)), ((1, 2),))

    def test_tuples_are_returned(self):
        self.assertIs(type(point_of(((1, 2),))), tuple)
        self.assertIs(type(numbers_of((1, 2))), tuple)


if __name__ == "__main__":
    unittest.main()
