import unittest
from random import Random

from chance import lowest_row, some_row, some_system
from elimination import somewhere
from everyfont.counting import counting_rows, counts_at
from everyfont.errors import Empty, Unlike
from everyfont.rows import row_minus
from everyfont.systems import holds_all
from everyfont.tops import check_top, top_value
from wrong import ANYTHING, Within, deep_tuple, raised

X, Y, ONE, ZERO = (1, 0, 0, 1), (0, 1, 0, 1), (0, 0, 1, 1), (0, 0, 0, 1)
TOP = (ONE, Y, X)
# 0 <= x <= 4, 0 <= y <= 3.
PLATE = (("ge", X), ("ge", (-1, 0, 4, 1)), ("gt", Y), ("ge", (0, -1, 3, 1)))


def within(count, system, point):
    """Return whether a POINT is one at which the values of all ROWS are above 0."""
    return holds_all(count, tuple(("gt", row) for _, row in system), point)


def counts(count, system, top, row):
    """Return whether a ROW counts, by elimination."""
    if any(word == "eq" for word, _ in system):
        return False
    pairs = tuple(("gt", own) for _, own in system)
    return somewhere(count, pairs + tuple(("gt", row_minus(row, other)) for other in top if other != row))


class ByHand(unittest.TestCase):
    def is_told(self, count, system, top, *counting):
        with self.subTest(top, system=system):
            self.assertEqual(counting_rows(count, system, top), counting)
            self.assertEqual(counting_rows(count, system, top), counting_rows(count, tuple(list(system)), tuple(list(top))))
            for row in top:
                point = counts_at(count, system, top, row)
                self.assertEqual(point is not None, row in counting)
                self.assertEqual(counts_at(count, system, top, row), point)
                if point is not None:
                    self.assertTrue(within(count, system, point))
                    self.assertTrue(all(
                        holds_all(count, (("gt", row_minus(row, other)),), point) for other in top if other != row))

    def test_all_count(self):
        self.is_told(2, PLATE, TOP, *TOP)
        self.is_told(2, (), TOP, *TOP)
        self.is_told(1, (), ((-1, 0, 1), (0, 1, 1), (1, 0, 1)), (-1, 0, 1), (0, 1, 1), (1, 0, 1))

    def test_rows_that_are_never_greatest(self):
        half = (1, 1, 0, 2)
        self.is_told(2, PLATE, (ZERO, ONE, Y, X), ONE, Y, X)
        # (x + y) / 2 is as great as the greatest one where x = y, and nowhere greater.
        self.is_told(2, PLATE, (Y, X, half), Y, X)
        self.is_told(2, PLATE, (Y, X, (1, 1, 1, 2)), Y, X, (1, 1, 1, 2))

    def test_rows_that_touch_only_at_a_rim(self):
        # x >= 4 or y >= 3 only at the rims of the plate; x + y only at their corner.
        for row in ((0, 0, 4, 1), (0, 1, 1, 1)):
            self.is_told(2, PLATE, tuple(sorted((row, X))), *{(0, 0, 4, 1): (row,), (0, 1, 1, 1): (row, X)}[row])
        self.is_told(2, PLATE, ((0, 0, 7, 1), (1, 1, 0, 1)), (0, 0, 7, 1))
        self.is_told(2, PLATE, ((0, 0, 6, 1), (1, 1, 0, 1)), (0, 0, 6, 1), (1, 1, 0, 1))
        # On 0 < x: 0 and -x are equal at 0 alone.
        self.is_told(1, (("ge", (1, 0, 1)),), ((-1, 0, 1), (0, 0, 1)), (0, 0, 1))
        self.is_told(1, (), ((-1, 0, 1), (0, 0, 1)), (-1, 0, 1), (0, 0, 1))

    def test_rows_that_are_equal_along_a_line(self):
        # 0, x and 2x are equal at 0, x counts nowhere; -1 at 0 neither.
        self.is_told(1, (), ((0, -1, 1), (0, 0, 1), (1, 0, 1), (2, 0, 1)), (0, 0, 1), (2, 0, 1))
        fan = tuple(sorted((k, k * k - 5 * k, 0, 1) for k in range(6)))
        self.is_told(2, PLATE, fan, (5, 0, 0, 1))
        self.is_told(2, (), fan, *fan)

    def test_one_row(self):
        for row in TOP + (ZERO, (-1, -1, -100, 7)):
            self.is_told(2, PLATE, (row,), row)
            self.is_told(2, (), (row,), row)

    def test_no_unknowns(self):
        self.is_told(0, (), ((0, 1), (1, 1), (3, 2)), (3, 2))
        self.is_told(0, (("gt", (1, 5)),), ((-7, 2),), (-7, 2))
        self.assertEqual(counts_at(0, (), ((0, 1), (1, 1)), (1, 1)), (1,))
        raised(self, Empty, counting_rows, 0, (("ge", (0, 1)),), ((0, 1),))
        raised(self, Empty, counting_rows, 0, (("gt", (-1, 1)),), ((0, 1),))

    def test_words_do_not_matter_but_eq(self):
        for words in (("ge", "ge", "ge", "ge"), ("gt", "gt", "gt", "gt"), ("gt", "ge", "gt", "ge")):
            system = tuple((word, row) for word, (_, row) in zip(words, PLATE))
            self.is_told(2, system, ((0, 0, 4, 1), X), (0, 0, 4, 1))
            self.is_told(2, system, TOP, *TOP)

    def test_systems_without_such_points(self):
        thin = (("ge", X), ("ge", (-1, 0, 0, 1)))
        for system in (
                thin, PLATE + thin, (("eq", X),), (("eq", (0, 0, 5, 1)),), (("eq", ZERO),), PLATE + (("eq", (0, 0, 1, 1)),),
                (("gt", X), ("gt", (-1, 0, 0, 1))), (("ge", ZERO),), (("gt", (0, 0, -1, 1)),)):
            for top in (TOP, (X,)):
                with self.subTest(system):
                    raised(self, Empty, counting_rows, 2, system, top)
                    for row in top:
                        self.assertIsNone(counts_at(2, system, top, row))

    def test_rows_over_unlike_bottoms(self):
        self.is_told(1, (("ge", (1, 0, 1)), ("ge", (-1, 1, 1))), ((1, 1, 3), (1, 2, 6), (3, 0, 4)), (1, 1, 3), (3, 0, 4))
        self.is_told(1, (("ge", (1, 0, 10 ** 40)),), ((1, 0, 10 ** 30), (10 ** 30, -1, 1)), (1, 0, 10 ** 30), (10 ** 30, -1, 1))

    def test_names(self):
        self.assertEqual(counting_rows(top=TOP, system=PLATE, count=2), TOP)
        self.assertEqual(counts_at(row=X, top=TOP, system=PLATE, count=2), counts_at(2, PLATE, TOP, X))


class OtherRows(unittest.TestCase):
    def test_other_values(self):
        for value in ANYTHING + (
                ZERO, list(X), (True, 0, 0, 1), (1, False, 0, 1), (1, 0, 0, True), (1.0, 0, 0, 1), (2, 0, 0, 2), (1, 0, 1), (1, 0, 0, 0, 1), TOP, (X,),
                (0, 0, 1, 2), deep_tuple(100)):
            for system in (PLATE, (("eq", X),), (("gt", ZERO),)):
                with self.subTest(value):
                    raised(self, Unlike, counts_at, 2, system, TOP, value)

    def test_lists_stay_as_they_are(self):
        row = [1, 0, 0, 1]
        raised(self, Unlike, counts_at, 2, PLATE, TOP, row)
        self.assertEqual(row, [1, 0, 0, 1])


class AgainstOthers(unittest.TestCase):
    def test_against_elimination(self):
        chance = Random(1)
        found = [0, 0, 0]
        for _ in range(250):
            count = chance.randint(0, 3)
            system = some_system(chance, count, chance.randint(0, 4), chance.choice((("ge", "gt"), ("ge", "gt", "eq"))), 2, 3)
            top = tuple(sorted({some_row(chance, count, 2, 3) for _ in range(chance.randint(1, 6))}))
            told = tuple(row for row in top if counts(count, system, top, row))
            for row in top:
                point = counts_at(count, system, top, row)
                self.assertEqual(point is not None, row in told)
                if point is not None:
                    self.assertTrue(within(count, system, point))
                    self.assertEqual([row], [own for own in top if top_value((own,), point) == top_value(top, point)])
            if told:
                self.assertEqual(counting_rows(count, system, top), told)
            else:
                raised(self, Empty, counting_rows, count, system, top)
            found[min(len(told), 2)] += 1
        self.assertGreater(min(found), 30)

    def test_values_stay(self):
        chance = Random(2)
        for _ in range(60):
            count = chance.randint(1, 4)
            point = [chance.randint(-3, 3) for _ in range(count)]
            system = []
            for _ in range(5):
                slopes = [chance.randint(-3, 3) for _ in range(count)]
                system.append(("ge", lowest_row(slopes + [1 - sum(own * top for own, top in zip(slopes, point)), 1])))
            top = tuple(sorted({some_row(chance, count, 5, 5) for _ in range(12)}))
            counting = counting_rows(count, tuple(system), top)
            self.assertIs(check_top(count, counting), counting)
            self.assertEqual(counting_rows(count, tuple(system), counting), counting)
            for _ in range(20):
                other = lowest_row([top + chance.randint(-5, 5) for top in point] + [chance.randint(1, 5)])
                if holds_all(count, tuple(system), other):
                    self.assertEqual(top_value(counting, other), top_value(top, other))

    def test_many_rows(self):
        chance = Random(3)
        for count, pairs, rows in ((1, 60, 400), (5, 60, 400), (12, 52, 400), (24, 60, 60)):
            system = tuple(
                ("gt", lowest_row([chance.randint(-3, 3) for _ in range(count)] + [chance.randint(1, 30), chance.randint(1, 3)]))
                for _ in range(pairs))
            top = tuple(sorted({some_row(chance, count, 9, 30) for _ in range(rows)}))
            with Within(self, 20):
                counting = counting_rows(count, system, top)
            for row in chance.sample(top, 12) + list(counting[:5]):
                with Within(self, 2):
                    point = counts_at(count, system, top, row)
                self.assertEqual(point is not None, row in counting)
        # All of 400 ROWS count: they touch a parabola.
        round_top = tuple((k, -k * k, 1) for k in range(400))
        with Within(self, 20):
            self.assertEqual(counting_rows(1, (("gt", (1, 0, 1)),), round_top), round_top)
        with Within(self, 20):
            self.assertEqual(counting_rows(1, (("gt", (-1, 200, 1)),), round_top), round_top[:101])


if __name__ == "__main__":
    unittest.main()
