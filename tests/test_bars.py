import unittest
from fractions import Fraction
from random import Random

from chance import as_fraction, some_row, some_system, system_at, system_nowhere
from elimination import parts_of, somewhere, values_of
from everyfont.bars import implied, is_bar, needless, point_or_bar
from everyfont.errors import NotRow, NotSystem
from everyfont.rows import row_minus
from everyfont.systems import holds_all
from test_systems import SYSTEM, WRONG_SYSTEMS
from wrong import ANYTHING, Within, deep_tuple, raised

ONE, TWO, ZERO = (1, 1), (2, 1), (0, 1)
LONG = 10 ** 1000
# x >= 1 and x <= 0, each of two unknowns.
APART = (("ge", (1, 0, -1, 1)), ("ge", (-1, 0, 0, 1)))


def is_bar_by_hand(count, system, weights):
    """Return whether a tuple of FRACTIONS is a BAR, with Python's fractions."""
    weights = [Fraction(*weight) for weight in weights]
    slopes, constant, strict = [Fraction(0)] * count, Fraction(0), False
    for (word, own_slopes, own_constant), weight in zip(map(parts_of, system), weights):
        if weight < 0 and word != "eq":
            return False
        slopes = [slope + weight * own for slope, own in zip(slopes, own_slopes)]
        constant += weight * own_constant
        strict = strict or (word == "gt" and weight > 0)
    return not any(slopes) and (constant < 0 or (constant == 0 and strict))


def without(system, number):
    """Return the SYSTEM without one pair."""
    return system[:number] + system[number + 1:]


def denials(pair):
    """Return the denials of a pair."""
    word, row = pair
    opposite = tuple(-top for top in row[:-1]) + row[-1:]
    return {"ge": [("gt", opposite)], "gt": [("ge", opposite)], "eq": [("gt", row), ("gt", opposite)]}[word]


def needless_by_hand(count, system):
    """Return what needless does, found by eliminating unknowns."""
    return tuple(
        number for number, pair in enumerate(system)
        if not any(somewhere(count, without(system, number) + (denial,)) for denial in denials(pair)))


def edge(number, count, sign=1):
    """Return the ROW of one number, or its opposite."""
    return tuple(sign * (place == number) for place in range(count)) + (0, 1)


def circle(count, word):
    """Return the pairs that say that each unknown is less than the next one, and the last one less than the first."""
    return tuple((word, row_minus(edge((number + 1) % count, count), edge(number, count))) for number in range(count))


class PointOrBar(unittest.TestCase):
    def is_right(self, count, system):
        """Return the word of what point_or_bar returns, which is right."""
        found = point_or_bar(count, system)
        self.assertIs(type(found), tuple)
        self.assertEqual(len(found), 2)
        if found[0] == "point":
            self.assertIs(holds_all(count, system, found[1]), True)
        else:
            self.assertEqual(found[0], "bar")
            self.assertTrue(is_bar_by_hand(count, system, found[1]))
            self.assertIs(is_bar(count, system, found[1]), True)
            self.assertLessEqual(sum(weight != ZERO for weight in found[1]), count + 1)
        return found[0]

    def test_points_that_are_alone(self):
        cases = (
            (1, (("ge", (1, -1, 1)), ("ge", (-1, 1, 1))), (1, 1)),
            (1, (("eq", (3, -2, 1)),), (2, 3)),
            (1, (("eq", (-2, 1, 3)), ("ge", (2, -1, 1)), ("gt", (1, 0, 1))), (1, 2)),
            (2, (("ge", (1, 0, -1, 1)), ("ge", (0, 1, -1, 1)), ("ge", (-1, -1, 2, 1))), (1, 1, 1)),
            (2, (("eq", (1, 1, -1, 1)), ("eq", (1, -1, 0, 1)), ("gt", (2, 0, 0, 1)), ("eq", (2, 0, -1, 5))), (1, 1, 2)),
            (3, (("eq", (1, 0, 0, 0, 1)), ("eq", (0, 1, 0, 0, 1)), ("eq", (0, 0, 1, 0, 1))), (0, 0, 0, 1)),
        )
        for count, system, point in cases:
            with self.subTest(system):
                self.assertEqual(point_or_bar(count, system), ("point", point))

    def test_open_sets(self):
        for system in (
                (), (("gt", (1, 0, 1)),), (("gt", (1, 0, 1)), ("gt", (-1, 1, 10 ** 30))), (("gt", (0, 1, 1)),), (("ge", (0, 0, 1)),),
                (("eq", (0, 0, 1)),), (("gt", (1, -10 ** 30, 1)),), (("gt", (1, 0, 1)), ("ge", (-1, 1, 1)), ("ge", (-1, 1, 1)))):
            self.assertEqual(self.is_right(1, system), "point")

    def test_bars_that_are_alone(self):
        cases = (
            (2, APART, (1, 1)), (1, (("gt", (1, 0, 1)), ("ge", (-1, 0, 1))), (1, 1)), (1, (("eq", (1, -1, 1)), ("eq", (1, -2, 1))), (-1, 1)),
            (1, (("ge", (0, -1, 1)),), (1,)), (1, (("gt", (0, 0, 1)),), (1,)), (1, (("eq", (0, 5, 1)),), (-1,)), (1, (("eq", (0, -5, 1)),), (1,)),
            (1, (("ge", (1, -1, 2)), ("ge", (-1, 0, 3))), (2, 3)), (2, (("gt", (1, 0, 0, 1)), ("gt", (0, 1, 0, 1)), ("gt", (-1, -1, 0, 1))), (1, 1, 1)),
            (1, (("eq", (2, -1, 1)), ("gt", (1, -1, 1))), (-1, 2)), (2, (("ge", (1, 1, 0, 7)), APART[0], ("eq", (1, 1, 1, 5))), (7, 0, -5)))
        for count, system, weights in cases:
            with self.subTest(system):
                word, bar = point_or_bar(count, system)
                self.assertEqual(word, "bar")
                # A BAR times a number above 0 is a BAR.
                factor = max(Fraction(*weight) / own for weight, own in zip(bar, weights) if own)
                self.assertGreater(factor, 0)
                self.assertEqual(bar, tuple(as_fraction(factor * own) for own in weights))

    def test_pairs_that_meet_in_one_point(self):
        meeting = (("ge", (1, 1, -2, 1)), ("ge", (-1, 0, 1, 1)), ("ge", (0, -1, 1, 1)), ("eq", (1, -1, 0, 1)))
        self.assertEqual(point_or_bar(2, meeting), ("point", (1, 1, 1)))
        for number in range(3):
            system = meeting[:number] + (("gt", meeting[number][1]),) + meeting[number + 1:]
            self.assertEqual(self.is_right(2, system), "bar")
        self.assertEqual(self.is_right(2, meeting + (("gt", (1, 0, 0, 1)),)), "point")
        self.assertEqual(self.is_right(2, meeting + (("eq", (1, 0, 0, 1)),)), "bar")

    def test_systems_that_hold_nowhere_by_gt_alone(self):
        for count in (1, 2, 5, 24):
            self.assertEqual(self.is_right(count, circle(count, "gt")), "bar")
            self.assertEqual(self.is_right(count, circle(count, "ge")), "point")
            self.assertEqual(self.is_right(count, circle(count, "ge")[1:] + (("gt", circle(count, "ge")[0][1]),)), "bar")
            self.assertEqual(self.is_right(count, circle(count, "gt")[1:] + ((("gt", (0,) * count + (1, 1))),)), "point")

    def test_a_bar_that_wants_all_weights(self):
        for count in (1, 2, 12, 24):
            system = tuple(("ge", edge(number, count)) for number in range(count)) + (("ge", (-1,) * count + (-1, 1)),)
            self.assertEqual(self.is_right(count, system), "bar")
            self.assertNotIn(ZERO, point_or_bar(count, system)[1])

    def test_few_weights_where_many_pairs_are_wrong(self):
        self.assertEqual(self.is_right(1, (("ge", (1, -1, 1)),) * 30 + (("ge", (-1, 0, 1)),) * 30), "bar")
        self.assertEqual(self.is_right(2, (("eq", (1, 2, 3, 4)), ("eq", (1, 2, 2, 4))) * 30), "bar")
        self.assertEqual(self.is_right(24, (("gt", (0,) * 24 + (-1, 1)),) * 60), "bar")
        self.assertEqual(self.is_right(24, (("gt", (0,) * 25 + (1,)),) * 60), "bar")

    def test_like_pairs(self):
        for word in ("ge", "gt", "eq"):
            for count in (1, 24):
                self.assertEqual(self.is_right(count, ((word, (1,) * count + (-1, 2)),) * 60), "point")
            self.assertEqual(self.is_right(3, ((word, (0, 0, 0, 1, 1)),) * 60), "bar" if word == "eq" else "point")

    def test_against_elimination(self):
        chance = Random(1)
        words = ("ge", "gt", "eq"), ("ge", "gt"), ("gt",), ("eq",)
        found = {"point": 0, "bar": 0}
        for _ in range(600):
            count = chance.randint(1, 4)
            system = some_system(chance, count, chance.randint(0, 7), chance.choice(words), chance.choice((1, 3)), chance.choice((0, 3)))
            word = self.is_right(count, system)
            self.assertEqual(word == "point", somewhere(count, system))
            found[word] += 1
        self.assertGreater(min(found.values()), 100)

    def test_many_unknowns_and_pairs(self):
        chance = Random(2)
        for count, pairs in ((5, 60), (8, 40), (12, 52), (16, 60), (20, 30), (24, 24), (24, 60), (24, 60)):
            point = [chance.randint(-5, 5) for _ in range(count)]
            for system, word in (
                    (system_at(chance, count, pairs, point), "point"),
                    (system_nowhere(chance, count, pairs, min(pairs, count + 5) - 1), "bar")):
                with Within(self, 10):
                    found = point_or_bar(count, system)
                self.assertEqual(found[0], word)
                self.assertEqual(self.is_right(count, system), word)

    def test_cones(self):
        chance = Random(3)
        for count in (5, 16, 24):
            for words in (("ge",), ("gt",), ("ge", "gt"), ("ge", "gt", "eq")):
                system = some_system(chance, count, 60, words, 2, 0)
                with Within(self, 10):
                    self.assertIn(self.is_right(count, system), ("point", "bar"))

    def test_long_integers(self):
        system = (("ge", (LONG, -1, 1)), ("gt", (-LONG, 2, LONG + 1)))
        self.assertEqual(self.is_right(1, system), "point")
        self.assertEqual(self.is_right(1, system + (("ge", (LONG, -2, 3)),)), "bar")
        chance = Random(4)
        with Within(self, 10):
            self.is_right(3, some_system(chance, 3, 20, most=LONG, constant=LONG))

    def test_wrong_systems(self):
        for value, number in WRONG_SYSTEMS:
            with self.subTest(value):
                self.assertEqual(raised(self, NotSystem, point_or_bar, 2, value).number, number)

    def test_names(self):
        self.assertEqual(point_or_bar(system=APART, count=2)[0], "bar")
        self.assertEqual(point_or_bar(system=SYSTEM[:2], count=2)[0], "point")


class IsBar(unittest.TestCase):
    def test_by_hand(self):
        for weights, is_so in (
                ((ONE, ONE), True), (((1, 2), (1, 2)), True), ((TWO, ONE), False), ((ONE, ZERO), False), ((ZERO, ZERO), False),
                (((-1, 1), (-1, 1)), False), ((ONE,), False), ((ONE, ONE, ZERO), False)):
            self.assertIs(is_bar(2, APART, weights), is_so)
        self.assertIs(is_bar(weights=(ONE, ONE), system=APART, count=2), True)
        self.assertIs(is_bar(1, (), ()), False)

    def test_zero_wants_a_gt_pair(self):
        for words, is_so in ((("ge", "ge"), False), (("gt", "ge"), True), (("ge", "gt"), True), (("eq", "ge"), False), (("gt", "eq"), True)):
            system = ((words[0], (1, 0, 1)), (words[1], (-1, 0, 1)))
            self.assertIs(is_bar(1, system, (ONE, ONE)), is_so)
        # A "gt" pair whose weight is 0 does not help.
        system = (("ge", (1, 0, 1)), ("ge", (-1, 0, 1)), ("gt", (1, 0, 1)))
        self.assertIs(is_bar(1, system, (ONE, ONE, ZERO)), False)
        self.assertIs(is_bar(1, system, (ZERO, ONE, ONE)), True)
        self.assertIs(is_bar(1, system, (ZERO, ZERO, ZERO)), False)

    def test_weights_of_eq_pairs_have_any_sign(self):
        system = (("eq", (1, -1, 1)), ("eq", (1, -2, 1)))
        self.assertIs(is_bar(1, system, ((-1, 1), ONE)), True)
        self.assertIs(is_bar(1, system, (ONE, (-1, 1))), False)
        self.assertIs(is_bar(1, (("ge", (1, -1, 1)), ("eq", (1, 0, 1))), (ONE, (-1, 1))), True)
        self.assertIs(is_bar(1, (("eq", (1, -1, 1)), ("ge", (1, 0, 1))), (ONE, (-1, 1))), False)
        self.assertIs(is_bar(1, (("eq", (1, -1, 1)), ("gt", (1, 0, 1))), (ONE, (-1, 1))), False)

    def test_a_positive_number_shows_nothing(self):
        self.assertIs(is_bar(1, (("ge", (1, 1, 1)), ("gt", (-1, 0, 1))), (ONE, ONE)), False)
        self.assertIs(is_bar(1, (("gt", (0, 1, 1)),), (ONE,)), False)

    def test_bottoms_of_rows_count(self):
        system = (("ge", (1, -1, 2)), ("ge", (-1, 0, 3)))
        self.assertIs(is_bar(1, system, (TWO, (3, 1))), True)
        self.assertIs(is_bar(1, system, (ONE, ONE)), False)
        self.assertIs(is_bar(1, system, ((1, 3), (1, 2))), True)

    def test_more_weights_than_needed(self):
        system = APART + (("ge", (1, 0, 0, 1)), ("ge", (-1, 0, 0, 1)))
        self.assertIs(is_bar(2, system, (ONE, ONE, TWO, TWO)), True)
        self.assertIs(is_bar(2, system, (ONE, ONE, TWO, ONE)), False)

    def test_any_value(self):
        wrong = ANYTHING + (
            [ONE, ONE], (ONE, [1, 1]), (ONE, 1), (ONE, None), (ONE, (True, 1)), (ONE, (1, True)), (ONE, (2, 2)), (ONE, (1, 0)),
            (ONE, (-1, -1)), (ONE, ("1", 1)), (), (ONE, (1, 1, 1)), (1, 1), ((1, 1), "a"), deep_tuple(100))
        for weights in wrong:
            for system in (APART, APART + (("ge", (0, 0, 0, 1)),), ()):
                with self.subTest(weights):
                    self.assertIs(is_bar(2, system, weights), False)

    def test_against_python(self):
        chance = Random(5)
        for _ in range(300):
            count = chance.randint(1, 2)
            system = some_system(chance, count, chance.randint(1, 3), most=1, constant=1)
            weights = tuple(as_fraction(Fraction(chance.randint(-2, 6), 2)) for _ in system)
            self.assertIs(is_bar(count, system, weights), is_bar_by_hand(count, system, weights))

    def test_wrong_systems_come_first(self):
        for value, number in WRONG_SYSTEMS:
            for weights in ((), None, (ONE, ONE)):
                with self.subTest(value):
                    self.assertEqual(raised(self, NotSystem, is_bar, 2, value, weights).number, number)


class Implied(unittest.TestCase):
    def test_by_hand(self):
        system = (("ge", (1, 0, -1, 1)), ("gt", (0, 1, -2, 1)))
        for row, is_so in (
                ((1, 1, -3, 1), True), ((1, 1, -4, 1), False), ((0, 1, -2, 1), True), ((1, 0, -1, 7), True), ((2, 1, -4, 3), True),
                ((1, -1, 0, 1), False), ((0, 0, 0, 1), True), ((0, 0, -1, 1), False), ((0, 0, 5, 3), True), ((3, 0, -3, 2), True),
                ((-1, 0, 0, 1), False), ((10 ** 9, 1, -10 ** 9 - 2, 1), True), ((10 ** 9, 1, -10 ** 9 - 3, 1), False)):
            with self.subTest(row):
                self.assertIs(implied(2, system, row), is_so)
        self.assertIs(implied(row=(1, 1, -3, 1), system=system, count=2), True)

    def test_no_pairs(self):
        for row, is_so in (((0, 0, 1), True), ((0, 1, 2), True), ((0, -1, 2), False), ((1, 0, 1), False), ((-1, 9, 1), False)):
            self.assertIs(implied(1, (), row), is_so)

    def test_a_system_that_holds_nowhere_implies_all(self):
        for row in ((0, 0, -1, 1), (5, -1, -3, 2)):
            self.assertIs(implied(2, APART, row), True)

    def test_eq_pairs(self):
        system = (("eq", (1, -1, 0, 1)),)
        self.assertIs(implied(2, system, (1, -1, 0, 1)), True)
        self.assertIs(implied(2, system, (-5, 5, 0, 3)), True)
        self.assertIs(implied(2, system, (-5, 5, 1, 3)), True)
        self.assertIs(implied(2, system, (-5, 5, -1, 3)), False)
        self.assertIs(implied(2, system, (1, 1, 0, 1)), False)

    def test_sixty_pairs(self):
        system = (("ge", (1, -1, 1)),) * 60
        self.assertIs(implied(1, system, (1, -1, 1)), True)
        self.assertIs(implied(1, system, (1, -2, 1)), False)

    def test_against_elimination(self):
        chance = Random(6)
        found = []
        for _ in range(400):
            count = chance.randint(1, 3)
            system = some_system(chance, count, chance.randint(0, 5), most=2)
            row = some_row(chance, count, 2)
            bounds = values_of(count, system, row)
            is_so = bounds is None or (bounds[0] is not None and bounds[0][0][0] >= 0)
            self.assertIs(implied(count, system, row), is_so)
            found.append(bounds is not None and is_so)
        self.assertGreater(sum(found), 10)

    def test_many_unknowns_and_pairs(self):
        chance = Random(7)
        for count in (5, 12, 24):
            system = system_at(chance, count, 60, [chance.randint(-5, 5) for _ in range(count)], ("ge", "gt"))
            total = tuple(sum(row[place] * (6 // row[-1]) for _, row in system) for place in range(count + 1))
            with Within(self, 10):
                self.assertIs(implied(count, system, total + (1,)), True)
                self.assertIs(implied(count, system, tuple(-top for top in total) + (1,)), False)

    def test_wrong_arguments(self):
        for value, number in WRONG_SYSTEMS:
            for row in ((1, 1, 1, 1), None):
                with self.subTest(value):
                    self.assertEqual(raised(self, NotSystem, implied, 2, value, row).number, number)
        for row, place in (
                (None, -1), ([1, 1, 1, 1], -1), ((1, 1, 1), -1), (deep_tuple(100), -1), ((True, 1, 1, 1), 0), ((1, 1, None, 0), 2),
                ((1, 1, 1, 0), 3), ((2, 2, 2, 2), -2)):
            for system in (SYSTEM, APART, ()):
                with self.subTest(row):
                    self.assertEqual(raised(self, NotRow, implied, 2, system, row).place, place)
        for row in ANYTHING:
            with self.subTest(row):
                self.assertEqual(raised(self, NotRow, implied, 7, (), row).place, -1)


class Needless(unittest.TestCase):
    def test_by_hand(self):
        at_least = lambda number, word="ge": (word, (1, -number, 1))
        at_most = lambda number, word="ge": (word, (-1, number, 1))
        cases = (
            ((), ()), ((at_least(1),), ()), ((at_least(1), at_least(0)), (1,)), ((at_least(1), at_least(0), at_least(1)), (0, 1, 2)),
            ((at_least(1, "gt"), at_least(1)), (1,)), ((at_least(1), at_least(1, "gt")), (0,)), ((at_least(1, "gt"),) * 2, (0, 1)),
            ((at_least(1, "eq"), at_least(1), at_most(1)), (0, 1, 2)), ((at_least(1, "eq"), at_least(1)), (1,)),
            ((at_least(1, "eq"), at_least(0, "gt"), at_most(1)), (1, 2)), ((at_least(1, "eq"),) * 3, (0, 1, 2)),
            ((at_least(0), at_most(1), at_least(-1), at_most(2, "gt")), (2, 3)), ((("ge", (0, 1, 1)),), (0,)), ((("ge", (0, 0, 1)),), (0,)),
            ((("gt", (0, 1, 1)),), (0,)), ((("eq", (0, 0, 1)),), (0,)), ((at_least(0), at_most(0), at_least(0, "eq")), (0, 1, 2)),
            ((at_least(0), at_most(0), at_least(-1, "gt")), (2,)), ((at_least(2), ("ge", (2, -3, 5))), (1,)))
        for system, numbers in cases:
            with self.subTest(system):
                self.assertEqual(needless(1, system), numbers)
        self.assertEqual(needless(system=(at_least(1), at_least(0)), count=1), (1,))

    def test_systems_that_hold_nowhere(self):
        least, most = ("ge", (1, -1, 1)), ("ge", (-1, 0, 1))
        lower = ("ge", (-1, -1, 1))
        cases = (
            ((least, most), ()), ((least, most, ("ge", (0, 1, 1))), (2,)), ((least, most, lower), (1, 2)), ((least, least, most), (0, 1)),
            ((("gt", (0, 0, 1)),), ()), ((("gt", (0, 0, 1)),) * 2, (0, 1)), ((("eq", (0, 3, 1)), least), (1,)),
            ((("eq", (1, 0, 1)), ("eq", (1, -1, 1))), ()), ((("eq", (1, 0, 1)), ("eq", (1, -1, 1)), ("eq", (1, -2, 1))), (0, 1, 2)),
            ((("gt", (1, 0, 1)), ("gt", (-1, 0, 1)), ("ge", (1, 5, 1))), (2,)), ((("ge", (0, -1, 1)), least, most), (0, 1, 2)))
        for system, numbers in cases:
            with self.subTest(system):
                self.assertEqual(needless(1, system), numbers)

    def test_two_unknowns(self):
        # The corner x >= 0, y >= 0 tells x + y >= 0, and x + y > -1, but not x + y > 0.
        corner = (("ge", (1, 0, 0, 1)), ("ge", (0, 1, 0, 1)))
        self.assertEqual(needless(2, corner + (("ge", (1, 1, 0, 3)),)), (2,))
        self.assertEqual(needless(2, corner + (("gt", (1, 1, 1, 1)),)), (2,))
        self.assertEqual(needless(2, corner + (("gt", (1, 1, 0, 1)),)), ())
        self.assertEqual(needless(2, corner + (("eq", (1, 1, 0, 1)),)), ())
        self.assertEqual(needless(2, corner + (("eq", (1, 1, 0, 1)), ("eq", (1, -1, 0, 1)))), (0, 1, 3))
        self.assertEqual(needless(2, (("eq", (1, 1, 0, 1)), ("eq", (1, -1, 0, 1)), ("eq", (2, 0, 0, 1)))), (0, 1, 2))

    def test_against_elimination(self):
        chance = Random(8)
        words = ("ge", "gt", "eq"), ("ge", "gt"), ("ge", "eq")
        kinds = {}
        for _ in range(500):
            count = chance.randint(1, 3)
            system = some_system(chance, count, chance.randint(0, 6), chance.choice(words), chance.choice((1, 2)), chance.choice((0, 1, 3)))
            if system and chance.random() < 0.3:
                system += (chance.choice(system),)
            numbers = needless_by_hand(count, system)
            self.assertEqual(needless(count, system), numbers)
            kind = (somewhere(count, system), 0 < len(numbers) < len(system))
            kinds[kind] = kinds.get(kind, 0) + 1
        self.assertGreater(min(kinds[kind] for kind in ((True, True), (False, True))), 40)

    def test_many_unknowns_and_pairs(self):
        chance = Random(9)
        for count, pairs in ((5, 60), (12, 52), (24, 60)):
            system = system_at(chance, count, pairs - 2, [chance.randint(-5, 5) for _ in range(count)])
            total = tuple(sum(row[place] * (6 // row[-1]) for _, row in system[:4]) for place in range(count + 1))
            system += (("ge", total[:-1] + (total[-1] + 1, 1)), ("ge", total[:-1] + (total[-1] + 2, 1)))
            with Within(self, 30):
                numbers = needless(count, system)
            self.assertLessEqual({pairs - 2, pairs - 1}, set(numbers))
            self.assertEqual(list(numbers), sorted(set(numbers)))

    def test_many_that_hold_nowhere(self):
        chance = Random(10)
        for count in (5, 24):
            system = system_nowhere(chance, count, 60, count)
            with Within(self, 30):
                numbers = needless(count, system)
            for number in range(60):
                with Within(self, 10):
                    rest = point_or_bar(count, without(system, number))[0]
                self.assertEqual(rest == "bar", number in numbers)

    def test_boxes_and_cones(self):
        count = 24
        sides = tuple(("ge", edge(number, count)) for number in range(count))
        upper = tuple(("gt", edge(number, count, -1)[:-2] + (1, 1)) for number in range(count))
        with Within(self, 30):
            self.assertEqual(needless(count, sides + upper), ())
            self.assertEqual(needless(count, sides + upper + (("gt", (-1,) * count + (count, 1)),)), (48,))
            self.assertEqual(needless(count, sides + (("ge", (1,) * count + (0, 1)),)), (24,))
            self.assertEqual(needless(count, circle(count, "ge")), ())
            self.assertEqual(needless(count, circle(count, "gt")), ())

    def test_wrong_systems(self):
        for value, number in WRONG_SYSTEMS:
            with self.subTest(value):
                self.assertEqual(raised(self, NotSystem, needless, 2, value).number, number)


class Equal(unittest.TestCase):
    def test_equal_calls_return_equal_results(self):
        chance = Random(11)
        for _ in range(30):
            count = chance.randint(1, 6)
            system = some_system(chance, count, chance.randint(0, 12))
            before = tuple(system)
            for function in (point_or_bar, needless):
                self.assertEqual(function(count, system), function(count, tuple(list(system))))
            self.assertEqual(system, before)


if __name__ == "__main__":
    unittest.main()
