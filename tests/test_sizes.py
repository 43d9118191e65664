import unittest
from random import Random

from chance import family_for, lowest_row, some_family, some_formulas
from everyfont.best import greatest
from everyfont.boxes import box_of
from everyfont.errors import Empty, Endless, NotFont, NotName, NotPaper, TooGreat
from everyfont.expressions import box_tops
from everyfont.families import family_font, family_pairs
from everyfont.numbers import compared, greatest_of
from everyfont.sizes import check_size, greatest_size, least_room, least_size, size_paper
from everyfont.systems import holds_all
from everyfont.tops import top_value
from wrong import ANYTHING, Within, deep_tuple, raised

A, B, C = ("sign", "a"), ("sign", "b"), ("sign", "c")
HALF = ("over", A, B)
X, Y = ("wide", "a", 1), ("wide", "b", 1)
WIDE_A = ("wide", "a", 0)
WORDS = ("wide", "high", "deep")


def half_family(*system):
    """Return a FAMILY in which a and b are x and y wide: HALF is max(x, y) + 2 wide."""
    return family_for(HALF, X, Y, system=system)


def many_family(formula, unknown, system=()):
    """Return the FAMILY of a FORMULA with these unknowns."""
    return family_for(formula, *unknown, system=system)


# x at most 3, y at most 5.
BOX = (("ge", (-1, 0, 3, 1)), ("ge", (0, -1, 5, 1)))


class ByHand(unittest.TestCase):
    def is_told(self, family, formula, word, most, least):
        """Hold what is told on both sides, with a PAPER of each, against what was worked out by hand."""
        for side, function, told in (("most", greatest_size, most), ("least", least_size, least)):
            with self.subTest(formula, family=family, word=word, side=side):
                self.assertEqual(function(family, formula, word), told)
                self.assertEqual(function(word=word, formula=formula, family=family), told)
                paper = size_paper(family, formula, word, side)
                self.assertEqual(size_paper(side=side, word=word, formula=formula, family=family), paper)
                self.assertEqual(check_size(family, formula, word, side, paper), told)
                self.assertEqual(check_size(value=paper, side=side, word=word, formula=formula, family=family), told)
                self.assertIs(type(told[-1]), type(function(family, formula, word)[-1]))

    def test_met_and_near(self):
        self.is_told(half_family(*BOX), HALF, "wide", ("most", (7, 1), True), ("least", (2, 1), False))
        open_box = (("gt", (-1, 0, 3, 1)), ("gt", (0, -1, 5, 1)))
        self.is_told(half_family(*open_box), HALF, "wide", ("most", (7, 1), False), ("least", (2, 1), False))
        # What is greater only comes near, what is less is met: then the greatest size is come near to.
        self.is_told(half_family(BOX[0], open_box[1]), HALF, "wide", ("most", (7, 1), False), ("least", (2, 1), False))
        self.is_told(half_family(open_box[0], BOX[1]), HALF, "wide", ("most", (7, 1), True), ("least", (2, 1), False))
        # Both come to 3, one of them meets it.
        even = (("gt", (-1, 0, 3, 1)), ("ge", (0, -1, 3, 1)))
        self.is_told(half_family(*even), HALF, "wide", ("most", (5, 1), True), ("least", (2, 1), False))
        even = (("ge", (-1, 0, 3, 1)), ("gt", (0, -1, 3, 1)))
        self.is_told(half_family(*even), HALF, "wide", ("most", (5, 1), True), ("least", (2, 1), False))

    def test_least_ones(self):
        from_one = (("ge", (1, 0, -1, 1)),)
        self.is_told(half_family(*from_one), HALF, "wide", ("endless",), ("least", (3, 1), True))
        self.is_told(half_family(("gt", (1, 0, -1, 1))), HALF, "wide", ("endless",), ("least", (3, 1), False))
        # x + y at least 3: the greater one is 3/2 at least.
        self.is_told(half_family(("ge", (1, 1, -3, 1))), HALF, "wide", ("endless",), ("least", (7, 2), True))
        self.is_told(half_family(("gt", (1, 1, -3, 1))), HALF, "wide", ("endless",), ("least", (7, 2), False))
        # x + 2 y at least 3, y at most 1/2: x is 2 at least.
        self.is_told(half_family(("ge", (1, 2, -3, 1)), ("ge", (0, -2, 1, 1))), HALF, "wide", ("endless",), ("least", (4, 1), True))
        self.is_told(half_family(("ge", (1, 2, -3, 1)), ("gt", (0, -2, 1, 1))), HALF, "wide", ("endless",), ("least", (4, 1), False))

    def test_endless_ones(self):
        self.is_told(half_family(), HALF, "wide", ("endless",), ("least", (2, 1), False))
        self.is_told(half_family(BOX[0]), HALF, "wide", ("endless",), ("least", (2, 1), False))
        # x may grow only with y; y is at most 5.
        self.is_told(half_family(BOX[1], ("ge", (-1, 1, 1, 1))), HALF, "wide", ("most", (8, 1), True), ("least", (2, 1), False))

    def test_high_and_deep(self):
        # rise 1, axis + rule + gap + deep 4: 4 + 1 up; fall 1, gap + high - axis 1: 1 + 1 down.
        family = half_family(*BOX)
        self.is_told(family, HALF, "high", ("most", (5, 1), True), ("least", (5, 1), True))
        self.is_told(family, HALF, "deep", ("most", (2, 1), True), ("least", (2, 1), True))
        family = family_for(A, ("high", "a", 0), ("deep", "a", 0), system=(("gt", (-1, -1, 7, 1)),))
        self.is_told(family, A, "high", ("most", (7, 1), False), ("least", (0, 1), False))
        # "deep" may be 0.
        self.is_told(family, A, "deep", ("most", (7, 1), False), ("least", (0, 1), True))
        self.is_told(family, A, "wide", ("most", (1, 1), True), ("least", (1, 1), True))

    def test_families_without_unknowns(self):
        family = family_for(HALF, wide=5, gap=2)
        self.is_told(family, HALF, "wide", ("most", (9, 1), True), ("least", (9, 1), True))
        self.assertEqual(size_paper(family, HALF, "wide", "most"), ("met", (1,), ((),)))
        self.assertEqual(size_paper(family, HALF, "wide", "least"), ("met", (1,), ((1, 1),), ()))
        # Pairs of no unknowns that hold, one of them "gt".
        family = family_for(A, system=(("gt", (3, 1)), ("ge", (1, 2))))
        self.is_told(family, A, "wide", ("most", (1, 1), True), ("least", (1, 1), True))

    def test_least_room(self):
        self.assertEqual(least_room(half_family(*BOX), HALF), (7, 1))
        self.assertEqual(least_room(half_family(("gt", (-3, 0, 8, 1)), ("gt", (0, -1, 2, 1))), HALF), (14, 3))
        self.assertEqual(least_room(formula=A, family=family_for(A, wide=4)), (4, 1))
        raised(self, Endless, least_room, half_family(), HALF)
        raised(self, Endless, least_room, half_family(BOX[0]), HALF)


class Papers(unittest.TestCase):
    """PAIRS of half_family(*BOX): 3 - x, 5 - y, x > 0, y > 0; SIZE ROWS y + 2, x + 2."""

    family = half_family(*BOX)
    lots = (((0, 1), (1, 1), (0, 1), (0, 1)), ((1, 1), (0, 1), (0, 1), (0, 1)))

    def are_papers(self, side, right, told, wrong, family=None):
        """Hold PAPERS that are right, and ones that are not, against what they show."""
        family = self.family if family is None else family
        for paper in right:
            self.assertEqual(check_size(family, HALF, "wide", side, paper), told)
        for paper in wrong:
            with self.subTest(paper):
                self.assertEqual(raised(self, NotPaper, check_size, family, HALF, "wide", side, paper).path, (paper[0],))

    def test_size_rows(self):
        self.assertEqual(box_tops(self.family, HALF)[0], ((0, 1, 2, 1), (1, 0, 2, 1)))

    def test_met(self):
        y_lot, x_lot = self.lots
        spare_lot = ((0, 1), (1, 1), (1, 1), (0, 1))
        self.are_papers("most", [
            ("met", (3, 5, 1), self.lots), ("met", (1, 5, 1), self.lots), ("met", (1, 20, 4), self.lots),
            # 3 - x is 5 - (x + 2); 4/3 (3 - x) + x/3 is 6 - (x + 2), 5/3 (3 - x) + 2/3 x is 7 - (x + 2).
            ("met", (3, 5, 1), (y_lot, ((4, 3), (0, 1), (1, 3), (0, 1)))), ("met", (3, 5, 1), (y_lot, ((5, 3), (0, 1), (2, 3), (0, 1)))),
        ], ("most", (7, 1), True), [
            # 2 (3 - x) + x is 8 - (x + 2): more than 7.
            ("met", (3, 5, 1), (y_lot, ((2, 1), (0, 1), (1, 1), (0, 1)))),
            ("met", (3, 4, 1), self.lots), ("met", (4, 5, 1), self.lots), ("met", (0, 5, 1), self.lots), ("met", (3, 5, 1), (x_lot, y_lot)),
            ("met", (3, 5, 1), (y_lot, y_lot)), ("met", (3, 5, 1), (spare_lot, x_lot)), ("met", (3, 5, 1), (y_lot, ((0, 1),) * 4)),
            ("met", (3, 5, 1), (y_lot, ((1, 1), (-1, 1), (0, 1), (-1, 1)))), ("met", (3, 6, 1), self.lots),
            # y is left over, or x.
            ("met", (3, 5, 1), (y_lot, ((1, 1), (0, 1), (0, 1), (1, 1)))), ("met", (3, 5, 1), (((0, 1), (1, 1), (1, 1), (0, 1)), x_lot)),
        ])

    def test_near(self):
        # x below 3, y below 5.
        family = half_family(("gt", BOX[0][1]), ("gt", BOX[1][1]))
        y_lot, x_lot = self.lots
        self.are_papers("most", [
            ("near", (1, 1, 1), (3, 5, 1), self.lots), ("near", (1, 4, 1), (0, 5, 1), self.lots),
        ], ("most", (7, 1), False), [
            ("near", (3, 5, 1), (3, 5, 1), self.lots), ("near", (1, 5, 1), (3, 5, 1), self.lots), ("near", (1, 1, 1), (3, 6, 1), self.lots),
            ("near", (1, 1, 1), (-1, 5, 1), self.lots), ("near", (1, 1, 1), (3, 4, 1), self.lots), ("near", (1, 1, 1), (3, 5, 1), (x_lot, y_lot)),
            ("near", (0, 1, 1), (3, 5, 1), self.lots), ("near", (1, 1, 1), (3, 5, 1), (y_lot, ((-1, 1),) + x_lot[1:])),
        ], family)
        # With "ge" for x, x + 2 comes to 5 at most: less than 7, with no "gt" pair.
        family = half_family(BOX[0], ("gt", BOX[1][1]))
        self.are_papers("most", [("near", (1, 1, 1), (3, 5, 1), self.lots)], ("most", (7, 1), False), [
            ("near", (1, 1, 1), (3, 5, 1), (y_lot, y_lot)), ("near", (1, 5, 1), (3, 5, 1), self.lots)], family)

    def test_near_without_a_gt_pair_that_has_a_positive_weight(self):
        self.are_papers("most", [], None, [("near", (3, 5, 1), (3, 5, 1), self.lots), ("near", (1, 1, 1), (3, 5, 1), self.lots)])
        # Both rows come to VALUE; one of them has no "gt".
        family = half_family(("gt", (-1, 0, 5, 1)), BOX[1])
        self.are_papers("most", [("met", (1, 5, 1), self.lots)], ("most", (7, 1), True), [
            ("near", (1, 1, 1), (1, 5, 1), self.lots), ("near", (1, 1, 1), (5, 1, 1), self.lots)], family)

    def test_endless(self):
        family = half_family(BOX[0])
        self.are_papers("most", [
            ("endless", (1, 1, 1), (0, 1)), ("endless", (3, 9, 1), (0, 5)),
        ], ("endless",), [
            ("endless", (1, 1, 1), (1, 0)), ("endless", (1, 1, 1), (0, 0)), ("endless", (1, 1, 1), (0, -1)), ("endless", (1, 1, 1), (-1, 2)),
            ("endless", (1, 1, 1), (1, 5)), ("endless", (4, 1, 1), (0, 1)), ("endless", (1, 0, 1), (0, 1)),
        ], family)
        self.are_papers("most", [], None, [("endless", (1, 1, 1), (0, 1)), ("endless", (1, 1, 1), (0, 0))])

    def test_least_near(self):
        # The sum of both rows by 2, less 2, is (x + y) / 2.
        half = ((1, 2), (1, 2))
        weights = ((0, 1), (0, 1), (1, 2), (1, 2))
        self.are_papers("least", [
            ("near", (1, 1, 1), (0, 0, 1), half, weights), ("near", (3, 5, 1), (0, 0, 1), half, weights),
            ("near", (1, 1, 1), (0, 0, 1), ((0, 1), (1, 1)), ((0, 1), (0, 1), (1, 1), (0, 1))),
            ("near", (1, 1, 1), (0, 0, 1), ((1, 3), (2, 3)), ((0, 1), (0, 1), (2, 3), (1, 3))),
        ], ("least", (2, 1), False), [
            ("near", (0, 0, 1), (0, 0, 1), half, weights), ("near", (1, 1, 1), (1, 0, 1), half, weights), ("near", (1, 1, 1), (1, 1, 1), half, weights),
            ("near", (4, 1, 1), (0, 0, 1), half, weights), ("near", (1, 1, 1), (-1, -1, 1), half, weights),
            ("near", (1, 1, 1), (0, 0, 1), ((1, 1), (1, 1)), ((0, 1), (0, 1), (1, 1), (1, 1))),
            ("near", (1, 1, 1), (0, 0, 1), ((1, 2), (1, 3)), weights), ("near", (1, 1, 1), (0, 0, 1), ((2, 1), (-1, 1)), ((0, 1), (0, 1), (-1, 1), (2, 1))),
            ("near", (1, 1, 1), (0, 0, 1), ((0, 1), (0, 1)), ((0, 1),) * 4), ("near", (1, 1, 1), (0, 0, 1), half, ((0, 1), (0, 1), (1, 2), (0, 1))),
            ("near", (1, 1, 1), (0, 0, 1), ((0, 1), (1, 1)), weights), ("met", (0, 0, 1), half, weights), ("met", (1, 1, 1), half, weights),
        ])

    def test_least_met(self):
        # x + y at least 3; both rows together by 2 are at least 7/2.
        family = half_family(("ge", (1, 1, -3, 1)))
        half = ((1, 2), (1, 2))
        weights = ((1, 2), (0, 1), (0, 1))
        self.are_papers("least", [("met", (3, 3, 2), half, weights)], ("least", (7, 2), True), [
            ("met", (2, 1, 1), half, weights), ("met", (1, 1, 1), half, weights), ("met", (3, 0, 1), half, weights),
            ("met", (3, 3, 2), half, ((1, 4), (0, 1), (0, 1))), ("met", (3, 3, 2), half, ((0, 1), (1, 2), (1, 2))),
            ("met", (3, 3, 2), ((1, 1), (0, 1)), weights), ("met", (3, 3, 2), ((1, 2), (1, 4)), weights),
            # No "gt" pair has a positive weight.
            ("near", (3, 3, 2), (3, 3, 2), half, weights), ("near", (2, 2, 1), (3, 3, 2), half, weights),
        ], family)
        family = half_family(("gt", (1, 1, -3, 1)))
        self.are_papers("least", [("near", (2, 2, 1), (3, 3, 2), half, weights)], ("least", (7, 2), False), [
            ("met", (3, 3, 2), half, weights), ("met", (2, 2, 1), half, weights), ("near", (3, 3, 2), (3, 3, 2), half, weights)], family)

    def test_shares_and_weights_alone(self):
        # 11/10 x - 11/20 - y, 2 x - 1, 6 - x: 2 (x + 2) - (y + 2) is at least 3, and (1, 1/10) is 3 wide.
        family = half_family(("ge", (22, -20, -11, 20)), ("ge", (2, 0, -1, 1)), ("ge", (-1, 0, 6, 1)))
        self.assertEqual(box_tops(family, HALF)[0], ((0, 1, 2, 1), (1, 0, 2, 1)))
        paper = ("met", (10, 1, 10), ((-1, 1), (2, 1)), ((1, 1), (9, 20), (0, 1), (0, 1), (0, 1)))
        self.are_papers("least", [], None, [paper], family)
        # x and y from 1 to 4: x + 2 + y + 2 is 6 + (x - 1) + (y - 1); x + 2 is 6 - (4 - x).
        family = half_family(("ge", (1, 0, -1, 1)), ("ge", (0, 1, -1, 1)), ("ge", (-1, 0, 4, 1)))
        nothing = ((0, 1), (0, 1))
        self.are_papers("least", [
            ("met", (1, 1, 1), ((0, 1), (1, 1)), ((1, 1), (0, 1), (0, 1)) + nothing),
            ("met", (1, 1, 1), ((1, 1), (0, 1)), ((0, 1), (1, 1), (0, 1)) + nothing)], ("least", (3, 1), True), [
            ("met", (4, 1, 1), ((1, 1), (1, 1)), ((1, 1), (1, 1), (0, 1)) + nothing),
            ("met", (4, 1, 1), ((0, 1), (1, 1)), ((0, 1), (0, 1), (-1, 1)) + nothing),
            ("met", (1, 1, 1), ((0, 1), (0, 1)), ((0, 1), (0, 1), (0, 1)) + nothing),
            ("met", (1, 1, 1), ((0, 1), (1, 1)), ((0, 1), (1, 1), (0, 1)) + nothing)], family)

    def test_forms(self):
        half, weights = ((1, 2), (1, 2)), ((0, 1), (0, 1), (1, 2), (1, 2))
        good = {
            "most": [("met", (3, 5, 1), self.lots), ("near", (1, 1, 1), (3, 5, 1), self.lots), ("endless", (1, 1, 1), (0, 1))],
            "least": [("met", (1, 1, 1), half, weights), ("near", (1, 1, 1), (0, 0, 1), half, weights)],
        }
        zero = (0, 1)
        spoiled = {
            "most": [
                ("met", (3, 5, 1), self.lots[:1]), ("met", (3, 5, 1), self.lots + self.lots[:1]), ("met", (3, 5, 1), list(self.lots)),
                ("met", (3, 5, 1), (self.lots[0], self.lots[1][:3])), ("met", (3, 5, 1), (self.lots[0], self.lots[1] + (zero,))),
                ("met", (3, 5, 1), (self.lots[0], (1,) + self.lots[1][1:])), ("met", (3, 5, 1), (self.lots[0], ((2, 2),) + self.lots[1][1:])),
                ("met", (3, 5, 1), (self.lots[0], ((True, 1),) + self.lots[1][1:])), ("met", (6, 10, 2), self.lots), ("met", (3, 5), self.lots),
                ("met", (3, True, 1), self.lots), ("met", (3, 5, 0), self.lots), ("met", (3, 5, 1)), ("met", (3, 5, 1), self.lots, ()),
                ("near", (1, 1, 1), self.lots), ("near", (1, 1, 1), (2, 2, 2), self.lots), ("near", (1, 1, 1), None, self.lots),
                ("endless", (1, 1, 1), (0, 1, 0)), ("endless", (1, 1, 1), (0,)), ("endless", (1, 1, 1), [0, 1]), ("endless", (1, 1, 1), (0, True)),
                ("endless", (1, 1, 1), ((0, 1), (1, 1))), ("endless", (2, 2, 2), (0, 1)), ("endless", (1, 1, 1)), ("none", (1, 1, 1)),
            ] + good["least"],
            "least": [
                ("met", (1, 1, 1), half[:1], weights), ("met", (1, 1, 1), half + (zero,), weights), ("met", (1, 1, 1), half, weights[:3]),
                ("met", (1, 1, 1), half, weights + (zero,)), ("met", (1, 1, 1), list(half), weights), ("met", (1, 1, 1), half, list(weights)),
                ("met", (1, 1, 1), ((2, 4), (1, 2)), weights), ("met", (1, 1, 1), half, (0,) + weights[1:]), ("met", (1, 1, 1), weights),
                ("met", (1, 1), half, weights), ("met", (2, 2, 2), half, weights), ("near", (1, 1, 1), half, weights),
                ("near", (1, 1, 1), (0, 0, 2), half, weights), ("near", (1, 1, 1), (0, 0, 1), half, weights, ()),
                ("near", (1, 1, 1), (0, 0, 1), (half,), weights), ("endless", (1, 1, 1), (0, 1)),
            ] + good["most"],
        }
        for side, papers in spoiled.items():
            for paper in papers + [["met"], ("met",), (), ("",), (good[side][0],), list(good[side][0]), deep_tuple(100), *ANYTHING]:
                with self.subTest(paper, side=side):
                    self.assertEqual(raised(self, NotPaper, check_size, self.family, HALF, "wide", side, paper).path, ("form",))

    def test_equal_size_rows(self):
        # Rows that are equal count once: max(x, x) + 2.
        family = family_for(("over", A, A), X, system=(("ge", (-1, 3, 1)),))
        self.assertEqual(check_size(family, ("over", A, A), "wide", "most", ("met", (3, 1), (((1, 1), (0, 1)),))), ("most", (5, 1), True))
        paper = ("near", (1, 1), (0, 1), ((1, 1),), ((0, 1), (1, 1)))
        self.assertEqual(check_size(family, ("over", A, A), "wide", "least", paper), ("least", (2, 1), False))

    def test_ways_of_no_numbers(self):
        family = family_for(A)
        self.assertEqual(raised(self, NotPaper, check_size, family, A, "wide", "most", ("endless", (1,), ())).path, ("endless",))
        self.assertEqual(raised(self, NotPaper, check_size, family, A, "wide", "most", ("endless", (1,), (0,))).path, ("form",))
        self.assertEqual(check_size(family, A, "wide", "most", ("met", (1,), ((),))), ("most", (1, 1), True))
        self.assertEqual(raised(self, NotPaper, check_size, family, A, "wide", "most", ("near", (1,), (1,), ((),))).path, ("near",))
        self.assertEqual(raised(self, NotPaper, check_size, family, A, "wide", "least", ("met", (1,), ((1, 2),), ())).path, ("met",))

    def test_nothing_changes(self):
        paper = ["met", [3, 5, 1], [[[0, 1]]]]
        raised(self, NotPaper, check_size, self.family, HALF, "wide", "most", paper)
        self.assertEqual(paper, ["met", [3, 5, 1], [[[0, 1]]]])


class Wrong(unittest.TestCase):
    functions = (
        greatest_size, least_size, lambda *three: size_paper(*three, "most"), lambda *three: check_size(*three, "least", None))

    def test_names_that_lack(self):
        for function in self.functions:
            self.assertEqual(raised(self, NotFont, function, family_for(A), HALF, None).name, ("axis", 0))
            self.assertEqual(raised(self, NotFont, function, family_for(A), B, "wide").name, ("deep", "b", 0))
        self.assertEqual(raised(self, NotFont, least_room, family_for(A), B).name, ("deep", "b", 0))

    def test_words_and_sides(self):
        nowhere = family_for(A, WIDE_A, system=(("gt", (-1, 0, 1)),))
        for value in ANYTHING + ("most", "least", "Wide", "wide ", ("wide",), ["wide"], deep_tuple(100)):
            for family in (family_for(A), nowhere):
                for function in self.functions:
                    self.assertIs(raised(self, NotName, function, family, A, value).name, value)
                self.assertIs(raised(self, NotName, size_paper, family, A, value, None).name, value)
                self.assertIs(raised(self, NotName, check_size, family, A, value, None, None).name, value)
        for value in ANYTHING + ("wide", "Most", ("most",), ["least"], deep_tuple(100)):
            for family in (family_for(A), nowhere):
                self.assertIs(raised(self, NotName, size_paper, family, A, "wide", value).name, value)
                self.assertIs(raised(self, NotName, check_size, family, A, "wide", value, None).name, value)

    def test_families_without_inner_fonts(self):
        for system in (
                (("gt", (-1, 0, 1)),), (("eq", (1, -1, 1)),), (("ge", (-1, 1, 1)), ("ge", (1, -1, 1))), (("ge", (0, 0, 1)),), (("eq", (0, 0, 1)),)):
            family = family_for(A, WIDE_A, system=system)
            for function in self.functions:
                raised(self, Empty, function, family, A, "wide")
            raised(self, Empty, least_room, family, A)

    def test_too_many_rows(self):
        many = ("row", *(("table", ((("sign", letter),), (C,))) for letter in "defghiklm"))
        family = many_family(many, [("wide", letter, 0) for letter in "defghiklm"])
        for word in WORDS:
            for function in self.functions:
                self.assertEqual(raised(self, TooGreat, function, family, many, word).most, 400)
        self.assertEqual(raised(self, TooGreat, least_room, family, many).most, 400)
        self.assertEqual(raised(self, NotName, size_paper, family, many, "wide", "").name, "")


class ByChance(unittest.TestCase):
    def test_against_the_rows_one_by_one(self):
        told = {}
        chance = Random(3)
        for formula, _ in some_formulas(160, 81):
            family = some_family(chance, formula, chance.randint(0, 8), chance.randint(0, 6))
            word = chance.choice(WORDS)
            try:
                rows = box_tops(family, formula)[WORDS.index(word)]
            except TooGreat:
                continue
            pairs, count = family_pairs(family), len(family[0])
            found = greatest_size(family, formula, word)
            each = [greatest(count, pairs, row) for row in rows]
            if ("endless",) in each:
                self.assertEqual(found, ("endless",))
            else:
                value = greatest_of([own[1] for own in each])
                self.assertEqual(found, ("most", value, ("most", value, True) in each))
            low = least_size(family, formula, word)
            self.assertGreaterEqual(low[1][0], 0)
            for side, shown in (("most", found), ("least", low)):
                paper = size_paper(family, formula, word, side)
                self.assertEqual(check_size(family, formula, word, side, paper), shown)
                told[(side, paper[0])] = told.get((side, paper[0]), 0) + 1
                self.assertTrue(holds_all(count, pairs, paper[1]))
                size = box_of(formula, family_font(family, paper[1]))[WORDS.index(word)]
                self.assertEqual(size, top_value(rows, paper[1]))
                self.assertGreaterEqual(compared(size, low[1]), 0)
                if found != ("endless",):
                    self.assertLessEqual(compared(size, found[1]), 0)
        self.assertEqual(len(told), 5)
        self.assertGreater(min(told.values()), 10)

    def test_many_rows_and_unknowns(self):
        chance = Random(5)
        letters = "abcdefghijkl"
        pairs = [(one, other) for number, one in enumerate(letters) for other in letters[number + 1:]]
        formula = ("row", *(("over", ("sign", one), ("sign", other)) for one, other in chance.sample(pairs, 8)))
        names = [name for name, _ in family_for(formula)[1] if name[0] == "wide"]
        count = len(names)
        system = []
        for number in range(count):
            unit = tuple(-int(own == number) for own in range(count))
            system.append((chance.choice(("ge", "gt")), unit + (chance.randint(10 ** 11, 10 ** 12), 1)))
        for _ in range(28):
            slopes = [chance.randint(0, 10 ** 8) for _ in range(count)]
            system.append(("ge", lowest_row(slopes + [chance.randint(-10 ** 19, -10 ** 18), 1])))
        family = family_for(formula, *names, system=tuple(system))
        self.assertGreater(len(box_tops(family, formula)[0]), 100)
        with Within(self, 30):
            most, least = greatest_size(family, formula, "wide"), least_size(family, formula, "wide")
        with Within(self, 30):
            for side, told in (("most", most), ("least", least)):
                self.assertEqual(check_size(family, formula, "wide", side, size_paper(family, formula, "wide", side)), told)


if __name__ == "__main__":
    unittest.main()
