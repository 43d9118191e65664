import unittest
from fractions import Fraction
from random import Random

from chance import lowest_row, some_row, some_system, system_at, system_nowhere, values_times
from elimination import parts_of, values_of
from everyfont.best import check_greatest, greatest, greatest_paper, least, range_of
from everyfont.errors import Empty, NotPaper, NotRow, NotSystem
from everyfont.rows import row_value
from everyfont.systems import holds_all
from test_bars import APART, circle, edge
from test_systems import WRONG_SYSTEMS
from wrong import ANYTHING, Within, deep_tuple, raised

ZERO, ONE = (0, 1), (1, 1)
# 0 <= x <= 4, 0 <= y < 3.
PLATE = (("ge", (1, 0, 0, 1)), ("ge", (-1, 0, 4, 1)), ("ge", (0, 1, 0, 1)), ("gt", (0, -1, 3, 1)))
X, Y, SUM = (1, 0, 0, 1), (0, 1, 0, 1), (1, 1, 0, 1)
RIGHT = (("ge", X),)
LONG = 10 ** 1000


def opposite_row(row):
    """Return the ROW with the opposite values."""
    return tuple(-top for top in row[:-1]) + row[-1:]


def opposite_most(found):
    """Return what greatest tells of the opposite ROW by what least tells of a ROW."""
    if found[0] == "least":
        return ("most", (-found[1][0], found[1][1]), found[2])
    return found


class ByHand(unittest.TestCase):
    def is_told(self, count, system, row, low, high):
        """Hold greatest, least, range_of and the paper against two bounds: None, or (value, whether it is met)."""
        with self.subTest(system, row=row):
            low, high = (
                bound and ((Fraction(bound[0]).numerator, Fraction(bound[0]).denominator), bound[1]) for bound in (low, high))
            most, lowest = ("most", *high) if high else ("endless",), ("least", *low) if low else ("endless",)
            self.assertEqual(greatest(count, system, row), most)
            self.assertEqual(least(count, system, row), lowest)
            self.assertEqual(range_of(count, system, row), (low, high))
            for own, found in ((row, most), (opposite_row(row), opposite_most(lowest))):
                self.assertEqual(greatest(count, system, own), found)
                paper = greatest_paper(count, system, own)
                self.assertEqual(paper[0], {True: "met", False: "near"}[found[2]] if found[0] == "most" else "endless")
                self.assertEqual(check_greatest(count, system, own, paper), found)

    def test_met_and_not_met(self):
        self.is_told(2, PLATE, X, (0, True), (4, True))
        self.is_told(2, PLATE, Y, (0, True), (3, False))
        self.is_told(2, PLATE, SUM, (0, True), (7, False))
        self.is_told(2, PLATE, (1, -1, 0, 1), (-3, False), (4, True))
        self.is_told(2, PLATE, (2, 3, -1, 5), (Fraction(-1, 5), True), (Fraction(16, 5), False))
        self.is_told(2, PLATE, (-1, 0, 0, 3), (Fraction(-4, 3), True), (0, True))

    def test_a_value_that_is_met_though_another_is_not(self):
        # x > 0, y >= 0, x + y <= 1: y comes near to 1, x + y is 1.
        system = (("gt", X), ("ge", Y), ("ge", (-1, -1, 1, 1)))
        self.is_told(2, system, Y, (0, True), (1, False))
        self.is_told(2, system, SUM, (0, False), (1, True))
        self.is_told(2, system, (1, 2, 0, 1), (0, False), (2, False))
        self.is_told(2, system, (2, 1, 0, 1), (0, False), (2, True))
        self.is_told(2, system, (3, 3, 1, 2), (Fraction(1, 2), False), (2, True))

    def test_endless(self):
        self.is_told(2, RIGHT, X, (0, True), None)
        self.is_told(2, RIGHT, Y, None, None)
        self.is_told(2, RIGHT, (-1, 0, 7, 1), None, (7, True))
        self.is_told(2, RIGHT, SUM, None, None)
        self.is_told(2, (("gt", X),), X, (0, False), None)
        self.is_told(2, (), X, None, None)
        # Only along one way: y = x, x >= 0.
        self.is_told(2, RIGHT + (("eq", (1, -1, 0, 1)),), SUM, (0, True), None)
        self.is_told(2, RIGHT + (("eq", (1, -1, 0, 1)),), (1, -1, 5, 2), (Fraction(5, 2), True), (Fraction(5, 2), True))

    def test_rows_whose_coefficients_are_0(self):
        for system in (PLATE, RIGHT, (), (("gt", X),), (("eq", Y),)):
            self.is_told(2, system, (0, 0, 5, 2), (Fraction(5, 2), True), (Fraction(5, 2), True))
            self.is_told(2, system, (0, 0, 0, 1), (0, True), (0, True))

    def test_one_point(self):
        system = (("ge", (1, 0, -1, 1)), ("ge", (0, 1, -1, 1)), ("ge", (-1, -1, 2, 1)))
        for row, value in ((X, 1), (SUM, 2), ((1, -1, 0, 1), 0), ((3, 2, -10, 7), Fraction(-5, 7))):
            self.is_told(2, system, row, (value, True), (value, True))
            self.is_told(2, system + (("eq", (1, -1, 0, 1)), ("gt", X)), row, (value, True), (value, True))

    def test_eq_pairs(self):
        # x = y, x < 2; 2x - 3 = 0.
        self.is_told(2, (("eq", (1, -1, 0, 1)), ("gt", (-1, 0, 2, 1))), SUM, None, (4, False))
        self.is_told(1, (("eq", (2, -3, 1)),), (1, 0, 1), (Fraction(3, 2), True), (Fraction(3, 2), True))
        self.is_told(1, (("eq", (2, -3, 1)), ("gt", (1, -1, 1))), (-2, 1, 4), (Fraction(-1, 2), True), (Fraction(-1, 2), True))

    def test_an_open_point_is_come_near_to_from_within(self):
        # 0 < x < 1: both ends are come near to; with y = x, 0 < y, too.
        system = (("gt", X), ("gt", (-1, 0, 1, 1)), ("eq", (1, -1, 0, 1)))
        self.is_told(2, system, Y, (0, False), (1, False))
        self.is_told(2, system, (1, -1, 0, 1), (0, True), (0, True))
        self.is_told(2, system, (-4, 1, 0, 1), (-3, False), (0, False))

    def test_long_integers(self):
        system = (("ge", (LONG, -1, 1)), ("gt", (-LONG, 2, 1)))
        self.is_told(1, system, (LONG, 0, 1), (1, True), (2, False))
        self.is_told(1, system, (1, 0, LONG), (Fraction(1, LONG ** 2), True), (Fraction(2, LONG ** 2), False))

    def test_nowhere(self):
        for row in (X, (0, 0, 3, 1), (-1, 4, 0, 3)):
            self.assertEqual(greatest(2, APART, row), ("none",))
            self.assertEqual(least(2, APART, row), ("none",))
            paper = greatest_paper(2, APART, row)
            self.assertEqual(paper, ("none", (ONE, ONE)))
            self.assertEqual(check_greatest(2, APART, row, paper), ("none",))
            raised(self, Empty, range_of, 2, APART, row)
        self.assertEqual(greatest(5, circle(5, "gt"), edge(1, 5)), ("none",))
        raised(self, Empty, range_of, 5, circle(5, "gt"), edge(1, 5))

    def test_names(self):
        self.assertEqual(greatest(row=X, system=PLATE, count=2), ("most", (4, 1), True))
        self.assertEqual(least(row=X, system=PLATE, count=2), ("least", (0, 1), True))
        self.assertEqual(range_of(row=X, system=PLATE, count=2), ((ZERO, True), ((4, 1), True)))
        paper = greatest_paper(row=X, system=PLATE, count=2)
        self.assertEqual(check_greatest(paper=paper, row=X, system=PLATE, count=2), ("most", (4, 1), True))


class Papers(unittest.TestCase):
    """Papers written by hand, and what is wrong with others."""

    def shows(self, count, system, row, paper, found):
        self.assertEqual(check_greatest(count, system, row, paper), found)

    def fails(self, count, system, row, paper, word):
        with self.subTest(paper, row=row):
            self.assertEqual(raised(self, NotPaper, check_greatest, count, system, row, paper).path, (word,))

    def test_met(self):
        weights = (ZERO, ONE, ZERO, ZERO)
        most = ("most", (4, 1), True)
        self.shows(2, PLATE, X, ("met", (4, 0, 1), weights), most)
        self.shows(2, PLATE, X, ("met", (8, 5, 2), weights), most)
        # 4 is not what the row is there, or the point is none of the system.
        self.fails(2, PLATE, X, ("met", (3, 0, 1), weights), "met")
        self.fails(2, PLATE, X, ("met", (5, 0, 1), weights), "met")
        self.fails(2, PLATE, X, ("met", (4, 3, 1), weights), "met")
        self.fails(2, PLATE, X, ("met", (4, -1, 2), weights), "met")
        self.fails(2, PLATE, SUM, ("met", (4, 0, 1), weights), "met")
        self.fails(2, PLATE, X, ("met", (4, 0, 1), (ZERO, (2, 1), ZERO, ZERO)), "met")
        self.fails(2, PLATE, X, ("met", (4, 0, 1), (ZERO,) * 4), "met")
        self.fails(2, PLATE, X, ("met", (4, 0, 1), (ONE, (2, 1), ONE, ZERO)), "met")
        self.fails(2, PLATE, X, ("met", (4, 0, 1), (ONE, (2, 1), ZERO, ZERO)), "met")

    def test_met_wants_weights_that_are_not_negative(self):
        # -x is 0 less x, but x is no greatest 0.
        self.fails(2, PLATE, X, ("met", (0, 0, 1), ((-1, 1), ZERO, ZERO, ZERO)), "met")
        self.shows(2, (("eq", X),), X, ("met", (0, 9, 1), ((-1, 1),)), ("most", ZERO, True))
        self.fails(2, (("ge", X),), X, ("met", (0, 9, 1), ((-1, 1),)), "met")
        self.fails(2, (("gt", X),), X, ("met", (1, 9, 1), ((-1, 1),)), "met")

    def test_met_with_bottoms(self):
        # (x - 1) / 2 where (3 - 2x) / 5 >= 0: at most 1/4, 5/4 times the pair.
        system, row = (("ge", (-2, 3, 5)),), (1, -1, 2)
        self.shows(1, system, row, ("met", (3, 2), ((5, 4),)), ("most", (1, 4), True))
        self.fails(1, system, row, ("met", (3, 2), ((1, 4),)), "met")
        self.fails(1, system, row, ("met", (3, 2), ((1, 2),)), "met")

    def test_met_where_a_gt_pair_has_a_weight(self):
        # x + y <= 1 and x > 0 tell that y comes near to 1; at no point is it 1.
        system = (("gt", X), ("ge", (-1, -1, 1, 1)))
        self.fails(2, system, Y, ("met", (0, 1, 1), (ONE, ONE)), "met")
        self.shows(2, system, Y, ("near", (1, 0, 1), (0, 1, 1), (ONE, ONE)), ("most", ONE, False))

    def test_near(self):
        weights = (ZERO, ONE, ZERO, ONE)
        most = ("most", (7, 1), False)
        self.shows(2, PLATE, SUM, ("near", (0, 0, 1), (4, 3, 1), weights), most)
        self.shows(2, PLATE, SUM, ("near", (7, 5, 2), (4, 3, 1), weights), most)
        self.fails(2, PLATE, SUM, ("near", (4, 3, 1), (4, 3, 1), weights), "near")
        self.fails(2, PLATE, SUM, ("near", (5, 0, 1), (4, 3, 1), weights), "near")
        self.fails(2, PLATE, SUM, ("near", (0, 0, 1), (3, 3, 1), weights), "near")
        self.fails(2, PLATE, SUM, ("near", (0, 0, 1), (3, 4, 1), weights), "near")
        self.fails(2, PLATE, SUM, ("near", (0, 0, 1), (4, 0, 1), weights), "near")
        self.fails(2, PLATE, SUM, ("near", (0, 0, 1), (4, 3, 1), (ZERO, ONE, ZERO, ZERO)), "near")
        self.fails(2, PLATE, SUM, ("near", (0, 0, 1), (4, 3, 1), ((-1, 1), ZERO, ZERO, ONE)), "near")
        self.fails(2, PLATE, X, ("near", (0, 0, 1), (4, 3, 1), weights), "near")

    def test_near_wants_a_gt_pair_with_a_weight(self):
        self.fails(2, PLATE, X, ("near", (0, 0, 1), (4, 0, 1), (ZERO, ONE, ZERO, ZERO)), "near")
        self.shows(2, PLATE, X, ("met", (4, 0, 1), (ZERO, ONE, ZERO, ZERO)), ("most", (4, 1), True))

    def test_near_wants_eq_pairs_at_both_points(self):
        system = (("eq", (1, -1, 0, 1)), ("gt", (-1, 0, 2, 1)))
        weights = ((-1, 1), (2, 1))
        self.shows(2, system, SUM, ("near", (0, 0, 1), (2, 2, 1), ((1, 1), (2, 1))), ("most", (4, 1), False))
        self.fails(2, system, SUM, ("near", (0, 0, 1), (2, 2, 1), weights), "near")
        self.fails(2, system, SUM, ("near", (0, 1, 1), (2, 2, 1), ((1, 1), (2, 1))), "near")
        self.fails(2, system, SUM, ("near", (0, 0, 1), (1, 3, 1), ((1, 1), (2, 1))), "near")
        self.shows(2, (("eq", (-1, 1, 0, 1)), system[1]), SUM, ("near", (0, 0, 1), (2, 2, 1), weights), ("most", (4, 1), False))

    def test_endless(self):
        for way in ((1, 0), (1, 5), (7, -9)):
            self.shows(2, RIGHT, X, ("endless", (0, 0, 1), way), ("endless",))
        self.shows(2, RIGHT, Y, ("endless", (3, 1, 2), (0, 1)), ("endless",))
        self.fails(2, RIGHT, X, ("endless", (0, 0, 1), (0, 1)), "endless")
        self.fails(2, RIGHT, X, ("endless", (0, 0, 1), (0, 0)), "endless")
        self.fails(2, RIGHT, X, ("endless", (-1, 0, 1), (1, 0)), "endless")
        self.fails(2, RIGHT, (-1, 0, 0, 1), ("endless", (0, 0, 1), (-1, 0)), "endless")
        self.fails(2, PLATE, X, ("endless", (0, 0, 1), (1, 0)), "endless")
        self.fails(2, PLATE, Y, ("endless", (0, 0, 1), (0, 1)), "endless")

    def test_endless_with_each_word(self):
        slope = (1, -1, 0, 1)
        for word, ways in (("eq", {(1, 1): True, (2, 1): False, (1, 2): False}), ("ge", {(1, 1): True, (2, 1): True, (1, 2): False}),
                           ("gt", {(1, 1): True, (2, 1): True, (1, 2): False})):
            system = ((word, slope),)
            point = (1, 0, 1) if word == "gt" else (0, 0, 1)
            for way, is_so in ways.items():
                if is_so:
                    self.shows(2, system, SUM, ("endless", point, way), ("endless",))
                else:
                    self.fails(2, system, SUM, ("endless", point, way), "endless")

    def test_none(self):
        self.shows(2, APART, X, ("none", (ONE, ONE)), ("none",))
        self.shows(2, APART, Y, ("none", ((5, 3), (5, 3))), ("none",))
        self.fails(2, APART, X, ("none", (ONE, ZERO)), "none")
        self.fails(2, APART, X, ("none", ((-1, 1), (-1, 1))), "none")
        self.fails(2, PLATE, X, ("none", (ONE,) * 4), "none")
        self.fails(2, (), X, ("none", ()), "none")

    def test_no_pairs(self):
        self.shows(2, (), (0, 0, 5, 2), ("met", (1, 1, 1), ()), ("most", (5, 2), True))
        self.fails(2, (), X, ("met", (1, 1, 1), ()), "met")
        self.shows(2, (), X, ("endless", (1, 1, 1), (1, 0)), ("endless",))
        self.fails(2, (), (0, 0, 5, 2), ("endless", (1, 1, 1), (1, 0)), "endless")
        self.fails(2, (), (0, 0, 5, 2), ("near", (1, 1, 1), (1, 1, 1), ()), "near")

    def test_the_form(self):
        point, way, weights = (0, 0, 1), (1, 0), (ZERO, ONE, ZERO, ONE)
        wrong = ANYTHING + (
            (), ("none",), ("met",), ("most", point, weights), ("Met", point, weights), ["met", point, weights], ("met", point), (None, weights),
            ("met", weights, point), ("met", point, weights, weights), ("near", point, weights), ("near", point, point), (True, point),
            ("near", point, point, weights, 1), ("endless", point), ("endless", point, way, way), ("none", weights, weights), ("none", point),
            ("endless", way, point), ("least", point, weights), (("met",), point, weights), ("endless",), ("near", point, weights, point),
            deep_tuple(100))
        for paper in wrong:
            for row in (X, SUM):
                self.fails(2, PLATE, row, paper, "form")

    def test_the_form_of_points(self):
        weights, way = (ZERO, ONE, ZERO, ONE), (1, 0)
        for point in (None, [4, 0, 1], (4, 0), (4, 0, 1, 1), (4, True, 1), (8, 0, 2), (4, 0, 0), (4, 0, -1), ("4", 0, 1), ((4, 1), (0, 1)), ()):
            self.fails(2, PLATE, X, ("met", point, weights), "form")
            self.fails(2, PLATE, X, ("near", point, (4, 3, 1), weights), "form")
            self.fails(2, PLATE, X, ("near", (0, 0, 1), point, weights), "form")
            self.fails(2, PLATE, X, ("endless", point, way), "form")

    def test_the_form_of_directions(self):
        for way in (None, [1, 0], (1,), (1, 0, 1), (1, True), (False, 1), (1, "0"), ((1, 1), (0, 1)), (1, None), (), 1):
            self.fails(2, RIGHT, X, ("endless", (0, 0, 1), way), "form")

    def test_the_form_of_weights(self):
        for weights in (
                None, [ZERO, ONE], (ONE,), (ONE, ONE, ONE), (1, 1), (ONE, (2, 4)), (ONE, (1, 0)), (ONE, (1, -1)), (ONE, (True, 1)), (ONE, [1, 1]),
                (ONE, None), (), ((1, 1, 1), ONE), ("ab", "cd")):
            self.fails(2, APART, X, ("none", weights), "form")
            self.fails(2, PLATE[:2], X, ("met", (4, 0, 1), weights), "form")
            self.fails(2, PLATE[:2], X, ("near", (0, 0, 1), (4, 0, 1), weights), "form")

    def test_the_form_comes_ahead_of_what_does_not_hold(self):
        self.fails(2, PLATE, X, ("met", (9, 9, 1), (ONE,)), "form")
        self.fails(2, PLATE, X, ("near", (9, 9, 1), (9, 9, 2), ((-1, 1),) * 3), "form")
        self.fails(2, PLATE, X, ("endless", (9, 9, 1), (1, 0, 0)), "form")

    def test_papers_stay_as_they_are(self):
        paper = ("met", [4, 0, 1], [ZERO, ONE, ZERO, ZERO])
        self.fails(2, PLATE, X, paper, "form")
        self.assertEqual(paper, ("met", [4, 0, 1], [ZERO, ONE, ZERO, ZERO]))


class AgainstOthers(unittest.TestCase):
    def test_against_elimination(self):
        chance = Random(1)
        words = ("ge", "gt", "eq"), ("ge", "gt"), ("gt",), ("ge",)
        found = {}
        for _ in range(700):
            count = chance.randint(1, 3)
            system = some_system(chance, count, chance.randint(0, 7), chance.choice(words), chance.choice((1, 3)), chance.choice((0, 1, 3)))
            row = some_row(chance, count, chance.choice((1, 3)))
            bounds = values_of(count, system, row)
            paper = greatest_paper(count, system, row)
            self.assertEqual(check_greatest(count, system, row, paper), greatest(count, system, row))
            found[paper[0]] = found.get(paper[0], 0) + 1
            if bounds is None:
                self.assertEqual((greatest(count, system, row), least(count, system, row)), (("none",), ("none",)))
                raised(self, Empty, range_of, count, system, row)
            else:
                self.assertEqual(range_of(count, system, row), bounds)
                self.assertEqual(greatest(count, system, row), ("most", *bounds[1]) if bounds[1] else ("endless",))
                self.assertEqual(least(count, system, row), ("least", *bounds[0]) if bounds[0] else ("endless",))
        self.assertGreater(min(found.values()), 30)
        self.assertEqual(len(found), 4)

    def test_papers_hold(self):
        """The papers that are returned, looked through with Python's fractions."""
        chance = Random(2)
        for _ in range(200):
            count = chance.randint(1, 5)
            system = some_system(chance, count, chance.randint(0, 9), most=2)
            row = some_row(chance, count, 2)
            word, *things = greatest_paper(count, system, row)
            if word != "none":
                self.assertIs(holds_all(count, system, things[0]), True)
            if word in ("met", "near"):
                value = Fraction(*row_value(row, things[-2]))
                _, slopes, constant = parts_of(("eq", row))
                for (own_word, own_slopes, own_constant), weight in zip(map(parts_of, system), things[-1]):
                    weight = Fraction(*weight)
                    self.assertTrue(weight >= 0 or own_word == "eq")
                    slopes = [slope + weight * own for slope, own in zip(slopes, own_slopes)]
                    constant += weight * own_constant
                self.assertFalse(any(slopes))
                self.assertEqual(constant, value)

    def test_many_unknowns_and_pairs(self):
        chance = Random(3)
        for count, pairs in ((5, 60), (8, 40), (12, 52), (16, 60), (24, 30), (24, 60), (24, 60)):
            system = system_at(chance, count, pairs, [chance.randint(-5, 5) for _ in range(count)])
            total, bottom = values_times([row for _, row in system], [-chance.randint(1, 3) for _ in range(pairs)])
            for row in (some_row(chance, count), lowest_row(total + [bottom])):
                with Within(self, 10):
                    found = greatest(count, system, row)
                with Within(self, 10):
                    paper = greatest_paper(count, system, row)
                with Within(self, 10):
                    low, high = range_of(count, system, row)
                self.assertEqual(check_greatest(count, system, row, paper), found)
                self.assertEqual(found, ("most", *high) if high else ("endless",))
                self.assertEqual(least(count, system, row), ("least", *low) if low else ("endless",))
            # No sum of the pairs times weights from 1 is less than 0.
            self.assertEqual(found[0], "most")

    def test_many_that_hold_nowhere(self):
        chance = Random(4)
        for count, pairs in ((5, 60), (12, 52), (24, 60)):
            system, row = system_nowhere(chance, count, pairs, count), some_row(chance, count)
            with Within(self, 10):
                self.assertEqual(greatest(count, system, row), ("none",))
            self.assertEqual(check_greatest(count, system, row, greatest_paper(count, system, row)), ("none",))

    def test_corners_that_lead_astray(self):
        # Cubes pushed askew, through whose 2 ** 24 corners a simplex method may be led (Klee, Minty).
        count = 24
        system = [("ge", edge(number, count)) for number in range(count)]
        for number in range(count):
            slopes = [-(2 ** (number - ahead + 1)) for ahead in range(number)] + [-1] + [0] * (count - number - 1)
            system.append(("ge", tuple(slopes) + (5 ** (number + 1), 1)))
        row = tuple(2 ** (count - 1 - number) for number in range(count)) + (0, 1)
        with Within(self, 10):
            self.assertEqual(greatest(count, tuple(system), row), ("most", (5 ** count, 1), True))
        askew = [("ge", edge(0, count)), ("ge", edge(0, count, -1)[:-2] + (1, 1))]
        for number in range(1, count):
            slopes = [0] * count
            slopes[number - 1:number + 1] = [-1, 3]
            askew.append(("ge", tuple(slopes) + (0, 1)))
            slopes[number] = -3
            askew.append(("ge", tuple(slopes) + (3, 1)))
        with Within(self, 10):
            self.assertEqual(greatest(count, tuple(askew), edge(count - 1, count)), ("most", ONE, True))

    def test_where_many_pairs_meet(self):
        # Beale's system, in which a simplex method may go round in circles.
        system = (
            ("ge", (1, 0, 0, 0, 0, 1)), ("ge", (0, 1, 0, 0, 0, 1)), ("ge", (0, 0, 1, 0, 0, 1)), ("ge", (0, 0, 0, 1, 0, 1)),
            ("ge", (-25, 1500, 4, -900, 0, 100)), ("ge", (-50, 9000, 2, -300, 0, 100)), ("ge", (0, 0, -1, 0, 1, 1)))
        system = tuple((word, lowest_row(row)) for word, row in system)
        self.assertEqual(greatest(4, system, lowest_row((75, -15000, 2, -600, 0, 100))), ("most", (1, 20), True))
        chance = Random(5)
        for count in (5, 16, 24):
            for words in (("ge",), ("gt",), ("ge", "gt")):
                cone = some_system(chance, count, 60 - count, words, 2, 0) + tuple(("ge", edge(number, count)) for number in range(count))
                with Within(self, 10):
                    found = greatest(count, cone, (-1,) * count + (0, 1))
                self.assertIn(found, (("none",), ("most", ZERO, True), ("most", ZERO, False)))

    def test_cubes(self):
        count = 24
        cube = tuple(("ge", edge(number, count)) for number in range(count))
        cube += tuple(("gt" if number else "ge", edge(number, count, -1)[:-2] + (1, 1)) for number in range(count))
        self.assertEqual(range_of(count, cube, (1,) * count + (0, 1)), ((ZERO, True), ((24, 1), False)))
        self.assertEqual(range_of(count, cube, edge(0, count)), ((ZERO, True), (ONE, True)))
        self.assertEqual(range_of(count, cube, edge(1, count)), ((ZERO, True), (ONE, False)))

    def test_sixty_pairs(self):
        self.assertEqual(greatest(1, (("ge", (-1, 5, 1)),) * 60, (2, 0, 1)), ("most", (10, 1), True))
        self.assertEqual(greatest(1, (("ge", (-1, 5, 1)),) * 59 + (("gt", (-1, 5, 1)),), (2, 0, 1)), ("most", (10, 1), False))
        self.assertEqual(least(24, (("eq", edge(3, 24)),) * 60, edge(3, 24)), ("least", ZERO, True))


class Wrong(unittest.TestCase):
    functions = (greatest, least, greatest_paper, range_of, lambda *arguments: check_greatest(*arguments, None))

    def test_systems_come_first(self):
        for function in self.functions:
            for value, number in WRONG_SYSTEMS:
                for row in (X, None, (2, 2, 2, 2)):
                    with self.subTest(value, row=row):
                        self.assertEqual(raised(self, NotSystem, function, 2, value, row).number, number)

    def test_rows_come_next(self):
        places = (
            (None, -1), ([1, 0, 0, 1], -1), ((1, 0, 1), -1), ((1, 0, 0, 0, 1), -1), (deep_tuple(100), -1), ((True, 0, 0, 0), 0), ((1, None, 0, 1), 1),
            ((1, 0, "0", 1), 2), ((1, 0, 0, True), 3), ((1, 0, 0, 0), 3), ((2, 2, 2, -2), 3), ((2, 0, 0, 2), -2), ((0, 0, 0, 2), -2))
        for function in self.functions:
            for row, place in places:
                for system in (PLATE, APART, ()):
                    with self.subTest(row):
                        self.assertEqual(raised(self, NotRow, function, 2, system, row).place, place)
            for row in ANYTHING:
                with self.subTest(row):
                    self.assertEqual(raised(self, NotRow, function, 6, (), row).place, -1)

    def test_papers_come_last(self):
        self.assertEqual(raised(self, NotPaper, check_greatest, 2, APART, X, None).path, ("form",))


class Equal(unittest.TestCase):
    def test_equal_calls_return_equal_results(self):
        chance = Random(6)
        for _ in range(30):
            count = chance.randint(1, 6)
            system = some_system(chance, count, chance.randint(0, 12))
            row = some_row(chance, count)
            for function in (greatest, least, greatest_paper):
                found = function(count, system, row)
                self.assertEqual(found, function(count, tuple(list(system)), tuple(list(row))))
                self.assertIs(type(found), tuple)


if __name__ == "__main__":
    unittest.main()
