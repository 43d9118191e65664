import unittest
from random import Random

from chance import lowest_row, some_system
from elimination import parts_of
from everyfont.errors import NotPoint, NotSystem
from everyfont.systems import check_system, first_broken, holds_all
from fractions import Fraction
from wrong import ANYTHING, deep_tuple, raised

# x + y >= 1, x - 2y > -1/2, 3x = y.
SYSTEM = (("ge", (1, 1, -1, 1)), ("gt", (2, -4, 1, 2)), ("eq", (3, -1, 0, 1)))
TRUE = ("ge", (0, 0, 1, 1))
LONG = 10 ** 3999

# No SYSTEM of two numbers: (any value, what NotSystem tells).
WRONG_SYSTEMS = (
    (None, None), (True, None), (1, None), ("ge", None), (list(SYSTEM), None), ({}, None), ({1}, None), ((TRUE,) * 61, None),
    ((None,) * 61, None), (range(2), None), (b"", None), ((None,), 0), ((True, TRUE), 0), ((TRUE, ["ge", TRUE[1]]), 1),
    ((TRUE, TRUE, ("ge",)), 2), ((("ge", TRUE[1], TRUE[1]),), 0), ((("le", TRUE[1]),), 0), ((("GE", TRUE[1]),), 0),
    (((None, TRUE[1]),), 0), ((("", TRUE[1]),), 0), (((["ge"], TRUE[1]),), 0), (((TRUE[1], "ge"),), 0), ((TRUE, ("ge", None)), 1),
    ((TRUE, ("ge", [0, 0, 1, 1])), 1), ((("gt", (0, 0, 1)), None), 0), ((("gt", (0, 0, 0, 1, 1)),), 0), ((("eq", (0, 0, 1, 0)),), 0),
    ((("eq", (0, 0, 1, -1)),), 0), ((("ge", (2, 0, 4, 2)),), 0), ((("ge", (0, 0, 0, 2)),), 0), ((("ge", (True, 0, 0, 1)),), 0),
    ((("ge", (0, 0, 0, True)),), 0), ((("ge", (0, "0", 0, 1)),), 0), ((("ge", (0, None, 0, 1)),), 0), ((TRUE,) * 59 + (None,), 59),
    ((TRUE, (), ()), 1), (SYSTEM + ("ge",), 3), (("ge", TRUE[1]), 0), (deep_tuple(100), 0), ((TRUE, deep_tuple(99)), 1),
)


class CheckSystem(unittest.TestCase):
    def test_systems(self):
        for count, system in (
                (2, SYSTEM), (2, ()), (2, (TRUE,) * 60), (1, (("gt", (1, 0, 1)),)), (24, (("eq", (1,) * 24 + (-5, 7)),)),
                (2, (("ge", (LONG, 0, 1, 1)), ("gt", (0, 0, -1, LONG))))):
            self.assertIs(check_system(count, system), system)
        self.assertIs(check_system(system=SYSTEM, count=2), SYSTEM)

    def test_other_values(self):
        for value, number in WRONG_SYSTEMS:
            with self.subTest(value):
                self.assertEqual(raised(self, NotSystem, check_system, 2, value).number, number)
        for value in ANYTHING:
            with self.subTest(value):
                self.assertEqual(
                    raised(self, NotSystem, check_system, 3, value).number, 0 if isinstance(value, tuple) else None)

    def test_rows_of_another_size(self):
        for count in (1, 3, 24):
            self.assertEqual(raised(self, NotSystem, check_system, count, SYSTEM).number, 0)

    def test_lists_stay_as_they_are(self):
        value = [["ge", [1, 2, 3]]]
        raised(self, NotSystem, check_system, 1, value)
        self.assertEqual(value, [["ge", [1, 2, 3]]])


class Holds(unittest.TestCase):
    def test_by_hand(self):
        # At (1/4, 3/4): 1 - 1 = 0 holds, 1/4 - 3/2 + 1/2 < 0 does not.
        cases = (
            ((1, 3, 4), 1), ((1, 0, 1), 2), ((0, 0, 1), 0), ((1, 1, 2), 1), ((2, 1, 4), 0), ((-1, 2, 1), 1), ((2, 1, 3), 2), ((5, 2, 1), 2))
        for point, number in cases:
            with self.subTest(point):
                self.assertEqual(first_broken(2, SYSTEM, point), number)
                self.assertIs(holds_all(2, SYSTEM, point), False)
        self.assertIsNone(first_broken(2, SYSTEM[:2], (1, 0, 1)))
        self.assertIs(holds_all(2, SYSTEM[:2], (1, 0, 1)), True)

    def test_each_word_at_its_edge(self):
        # x - 1/2 at 1/2, beneath and above.
        for word, beneath, at, above in (
                ("ge", False, True, True), ("gt", False, False, True), ("eq", False, True, False)):
            system = ((word, (2, -1, 2)),)
            self.assertIs(holds_all(1, system, (2, 5)), beneath)
            self.assertIs(holds_all(1, system, (1, 2)), at)
            self.assertIs(holds_all(1, system, (3, 5)), above)
            self.assertEqual(first_broken(1, system, (2, 5)), None if beneath else 0)
            self.assertEqual(first_broken(1, system, (1, 2)), None if at else 0)
            self.assertEqual(first_broken(1, system, (3, 5)), None if above else 0)

    def test_many_pairs(self):
        self.assertIs(holds_all(2, (), (0, 0, 1)), True)
        self.assertIsNone(first_broken(2, (), (0, 0, 1)))
        self.assertIs(holds_all(2, (TRUE,) * 60, (7, -1, 3)), True)
        self.assertEqual(first_broken(2, (TRUE,) * 59 + (("gt", (0, 0, 0, 1)),), (7, -1, 3)), 59)
        self.assertEqual(first_broken(24, (("eq", (1,) * 24 + (-12, 1)),), (1,) * 24 + (2,)), None)

    def test_long_integers(self):
        self.assertIs(holds_all(1, (("eq", (LONG, -1, 1)),), (1, LONG)), True)
        self.assertIs(holds_all(1, (("gt", (LONG, -1, 1)),), (1, LONG - 1)), True)
        self.assertIs(holds_all(1, (("ge", (LONG, -1, 1)),), (1, LONG + 1)), False)

    def test_against_python(self):
        chance = Random(1)
        for _ in range(200):
            count = chance.randint(1, 5)
            system = some_system(chance, count, chance.randint(0, 5), most=2)
            point = lowest_row([chance.randint(-3, 3) for _ in range(count)] + [chance.randint(1, 3)])
            numbers = [Fraction(top, point[-1]) for top in point[:-1]]
            broken = []
            for number, (word, slopes, constant) in enumerate(map(parts_of, system)):
                value = sum((slope * own for slope, own in zip(slopes, numbers)), constant)
                if not {"ge": value >= 0, "gt": value > 0, "eq": value == 0}[word]:
                    broken.append(number)
            self.assertEqual(first_broken(count, system, point), broken[0] if broken else None)
            self.assertIs(holds_all(count, system, point), not broken)

    def test_names(self):
        self.assertIs(holds_all(point=(1, 0, 1), system=SYSTEM, count=2), False)
        self.assertEqual(first_broken(point=(1, 0, 1), system=SYSTEM, count=2), 2)

    def test_wrong_systems_come_first(self):
        for function in (holds_all, first_broken):
            for value, number in WRONG_SYSTEMS:
                for point in ((1, 1, 1), None, (1, 1, 0)):
                    with self.subTest(value, function=function):
                        self.assertEqual(raised(self, NotSystem, function, 2, value, point).number, number)

    def test_wrong_points(self):
        places = (
            ((1, 1), -1), ((1, 1, 1, 1), -1), ([1, 1, 1], -1), (None, -1), ("point", -1), (deep_tuple(100), -1), ((True, 1, 1), 0),
            ((1, False, 0), 1), ((1, 1, True), 2), ((1, 1, None), 2), ((1, (1,), 1), 1), ((1, 1, 0), 2), ((2, 2, -2), 2), ((2, 2, 2), -2),
            ((0, 0, 5), -2))
        for function in (holds_all, first_broken):
            for point, place in places:
                for system in ((), SYSTEM):
                    with self.subTest(point, function=function):
                        self.assertEqual(raised(self, NotPoint, function, 2, system, point).place, place)
            for point in ANYTHING:
                with self.subTest(point, function=function):
                    self.assertEqual(raised(self, NotPoint, function, 5, (), point).place, -1)


if __name__ == "__main__":
    unittest.main()
