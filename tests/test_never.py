import unittest
from random import Random

from chance import lowest_row, some_row, some_system
from elimination import somewhere
from everyfont.errors import NotPaper
from everyfont.never import check_never, never_more, never_paper
from everyfont.points import check_point
from everyfont.rows import row_minus
from everyfont.systems import holds_all
from everyfont.tops import top_value
from wrong import ANYTHING, Within, deep_tuple, raised

X, Y, ONE, ZERO = (1, 0, 0, 1), (0, 1, 0, 1), (0, 0, 1, 1), (0, 0, 0, 1)
THREE, FOUR = (0, 0, 3, 1), (0, 0, 4, 1)
HALF = (1, 1, 0, 2)
NONE, ALL = (0, 1), (1, 1)
# 0 <= x <= 4, 0 <= y < 3.
PLATE = (("ge", X), ("ge", (-1, 0, 4, 1)), ("ge", Y), ("gt", (0, -1, 3, 1)))
# x = y, x > 2.
RAY = (("eq", (1, -1, 0, 1)), ("gt", (1, 0, -2, 1)))
NOWHERE = (("ge", X), ("gt", (-1, 0, 0, 1)))


class NeverMore(unittest.TestCase):
    def is_told(self, count, system, one, other, told):
        with self.subTest(system, one=one, other=other):
            paper = never_paper(count, system, one, other)
            self.assertEqual(paper[0], "means" if told else "point")
            self.assertIs(never_more(count, system, one, other), told)
            self.assertIs(check_never(count, system, one, other, paper), told)
            self.assertEqual(never_paper(count, tuple(list(system)), tuple(list(one)), other), paper)
            if not told:
                self.assertIs(check_point(count, paper[1]), paper[1])
                self.assertIs(holds_all(count, system, paper[1]), True)

    def test_by_hand(self):
        for system, one, other, told in (
                (PLATE, (X,), (FOUR,), True), (PLATE, (X,), (THREE,), False), (PLATE, (Y,), (THREE,), True), (PLATE, (THREE, Y), (FOUR,), True),
                (PLATE, (FOUR, X), (FOUR,), True), (PLATE, (Y, X), (FOUR,), True), (PLATE, (HALF,), (Y, X), True),
                (PLATE, ((1, 1, 1, 2),), (Y, X), False), (PLATE, (Y, X), (HALF,), False), (PLATE, (ZERO,), (Y, X), True),
                (PLATE, ((-1, 0, 0, 1),), (ZERO,), True), (PLATE, (ONE,), (Y, X), False), ((), (X,), (X,), True), ((), (X,), (Y, X), True),
                ((), (X,), (Y,), False), ((), (HALF,), (Y, X), True), ((), (ZERO,), (ONE,), True), ((), (ONE,), (ZERO,), False),
                (RAY, (X,), (Y,), True), (RAY, (Y, X), (HALF,), True), (RAY, ((0, 0, 2, 1),), (X,), True), (RAY, (THREE,), (X,), False),
                (RAY, ((1, 1, 0, 1),), (X,), False), (RAY, (X,), ((3, -1, -2, 1),), True)):
            self.is_told(2, system, one, other, told)

    def test_a_system_that_holds_nowhere(self):
        for one in ((X,), (ONE, Y, X)):
            for other in ((ZERO,), (Y, X)):
                self.is_told(2, NOWHERE, one, other, True)
                self.is_told(2, (("gt", ZERO),), one, other, True)

    def test_where_values_are_only_come_near_to(self):
        # y < 3: at no point is it 3; x <= 4 is met.
        self.is_told(2, PLATE, ((0, 1, 1, 1),), (FOUR,), True)
        self.is_told(2, PLATE + (("ge", (0, 1, -3, 1)),), (FOUR,), (ZERO,), True)
        self.is_told(2, (("gt", X), ("ge", (-1, 0, 0, 1))), (FOUR,), (ZERO,), True)

    def test_no_unknowns(self):
        self.is_told(0, (), ((0, 1), (1, 2)), ((1, 2),), True)
        self.is_told(0, (), ((0, 1), (2, 3)), ((1, 2),), False)
        self.assertEqual(never_paper(0, (), ((2, 3),), ((1, 2),)), ("point", (1,)))
        self.is_told(0, (("gt", (0, 1)),), ((2, 3),), ((1, 2),), True)

    def test_names(self):
        self.assertIs(never_more(other=(FOUR,), one=(X,), system=PLATE, count=2), True)
        paper = never_paper(other=(FOUR,), one=(X,), system=PLATE, count=2)
        self.assertIs(check_never(paper=paper, other=(FOUR,), one=(X,), system=PLATE, count=2), True)

    def test_against_elimination(self):
        chance = Random(1)
        found = {True: 0, False: 0}
        for _ in range(400):
            count = chance.randint(0, 3)
            system = some_system(chance, count, chance.randint(0, 5), most=2, constant=3)
            one, other = (tuple(sorted({some_row(chance, count, 2, 3) for _ in range(chance.randint(1, 4))})) for _ in range(2))
            told = not any(somewhere(count, system + tuple(("gt", row_minus(row, own)) for own in other)) for row in one)
            self.is_told(count, system, one, other, told)
            found[told] += 1
        self.assertGreater(min(found.values()), 80)

    def test_many_rows(self):
        chance = Random(2)
        for count, pairs, rows in ((2, 60, 400), (12, 52, 400), (24, 60, 50)):
            system = tuple(
                ("ge", lowest_row([chance.randint(-3, 3) for _ in range(count)] + [chance.randint(1, 30), 1])) for _ in range(pairs))
            other = tuple(sorted({some_row(chance, count, 9, 30) for _ in range(rows)}))
            lower = tuple(sorted({row_minus(row, (0,) * count + (chance.randint(0, 3), 7)) for row in other}))
            with Within(self, 20):
                self.assertIs(never_more(count, system, lower, other), True)
            with Within(self, 20):
                paper = never_paper(count, system, other, lower)
            with Within(self, 20):
                self.assertIs(check_never(count, system, other, lower, paper), paper[0] == "means")


class Papers(unittest.TestCase):
    """PAPERS written by hand, and what is wrong with others."""

    def shows(self, system, one, other, paper, told=True):
        self.assertIs(check_never(2, system, one, other, paper), told)

    def fails(self, system, one, other, paper, word):
        with self.subTest(paper):
            self.assertEqual(raised(self, NotPaper, check_never, 2, system, one, other, paper).path, (word,))

    def test_means(self):
        # 4 - x is the second pair; x / 2 + y / 2 less y is half of x less y.
        weights = (NONE, ALL, NONE, NONE)
        self.shows(PLATE, (X,), (FOUR,), ("means", (((ALL,), weights),)))
        self.shows(PLATE, (X,), (FOUR,), ("means", (((ALL,), weights),)))
        self.shows(PLATE, (HALF,), (Y, X), ("means", ((((1, 2), (1, 2)), (NONE,) * 4),)))
        self.shows(PLATE, (ZERO,), (Y, X), ("means", (((ALL, NONE), (NONE, NONE, ALL, NONE)),)))
        self.shows(PLATE, (ZERO,), (Y, X), ("means", ((((1, 3), (2, 3)), ((2, 3), NONE, (1, 3), NONE)),)))
        # A number that is not negative may be left: 4 less 0, or less 4.
        self.shows(PLATE, (ZERO,), (FOUR,), ("means", (((ALL,), (NONE,) * 4),)))
        self.shows(PLATE, (FOUR,), (FOUR,), ("means", (((ALL,), (NONE,) * 4),)))
        self.shows(PLATE, (ZERO, X), (FOUR,), ("means", (((ALL,), (NONE,) * 4), ((ALL,), weights))))

    def test_means_that_do_not_hold(self):
        def fails(means, weights, one=(X,), other=(FOUR,), system=PLATE):
            self.fails(system, one, other, ("means", ((means, weights),)), "means")
        weights = (NONE, ALL, NONE, NONE)
        for means in ((NONE,), ((1, 2),), ((2, 1),), ((-1, 1),)):
            fails(means, weights)
        for others in ((NONE,) * 4, (NONE, (1, 2), NONE, NONE), (NONE, (2, 1), NONE, NONE), (ALL, ALL, NONE, NONE), (NONE, (-1, 1), NONE, NONE)):
            fails((ALL,), others)
        # What is left of 4 - y, and of 4 - x - y.
        fails((ALL,), (NONE,) * 4, (Y,))
        fails((ALL,), (NONE,) * 4, ((1, 1, 0, 1),))
        fails((ALL,), weights, ((1, 1, 0, 1),))
        fails((ALL,), (NONE,) * 4, (FOUR,), (THREE,))
        fails((ALL,), (NONE,) * 4, (FOUR,), ((0, 0, 399, 100),))
        # MEAN's and WEIGHTS that would do but are negative.
        fails(((2, 1), (-1, 1)), (NONE,) * 4, ((-1, 2, 0, 1),), (Y, X))
        self.shows((), ((-1, 2, 0, 1),), ((-1, 2, 0, 1), X), ("means", (((ALL, NONE), ()),)))
        fails((ALL,), ((-1, 1),), (X,), (ZERO,), (("ge", X),))
        fails((ALL,), ((-1, 1),), (X,), (ZERO,), (("gt", X),))
        self.shows((("eq", X),), (X,), (ZERO,), ("means", (((ALL,), ((-1, 1),)),)))
        # Each ROW of the first TOP has its own, in turn.
        right = ((ALL,), (NONE,) * 4), ((ALL,), weights)
        self.shows(PLATE, (ZERO, X), (FOUR,), ("means", right))
        self.fails(PLATE, (ZERO, X), (FOUR,), ("means", right[::-1]), "means")
        self.fails(PLATE, (ZERO, X), (FOUR,), ("means", right[:1] * 2), "means")

    def test_bars(self):
        bar = (((NONE, NONE), (ALL, ALL)),)
        self.shows(NOWHERE, (X,), (Y, X), ("means", bar))
        self.shows(NOWHERE, (ONE, X), (Y, X), ("means", bar * 2))
        # MEAN's that are all 0 want a BAR, others do not take one.
        for means, weights in (((NONE, NONE), (ALL, NONE)), ((NONE, NONE), (NONE, NONE)), ((NONE, NONE), ((-1, 1), (-1, 1))), (((1, 2), NONE), (ALL, ALL))):
            self.fails(NOWHERE, (ONE,), (Y, X), ("means", ((means, weights),)), "means")
        self.fails((("ge", X), ("ge", (-1, 0, 0, 1))), (ONE,), (Y, X), ("means", bar), "means")
        self.fails(PLATE, (X,), (FOUR,), ("means", (((NONE,), (NONE, ALL, NONE, NONE)),)), "means")
        # MEAN's that add up to 0 are not all 0.
        self.fails(NOWHERE, (ONE,), (Y, X), ("means", ((((1, 1), (-1, 1)), (ALL, ALL)),)), "means")

    def test_points(self):
        self.shows(PLATE, (X,), (THREE,), ("point", (4, 0, 1)), False)
        self.shows(PLATE, (X,), (THREE,), ("point", (7, 0, 2)), False)
        for point in ((3, 0, 1), (5, 0, 1), (4, 3, 1), (4, -1, 1), (0, 0, 1)):
            self.fails(PLATE, (X,), (THREE,), ("point", point), "point")
        self.fails(PLATE, (X,), (FOUR,), ("point", (4, 0, 1)), "point")
        self.fails(PLATE, (X,), (THREE, X), ("point", (4, 0, 1)), "point")
        self.shows(PLATE, (THREE, X), (HALF,), ("point", (0, 0, 1)), False)

    def test_the_form(self):
        right = ((ALL,), (NONE, ALL, NONE, NONE))
        for paper in ANYTHING + (
                (), ("means",), ("means", (right,), 1), ("Means", (right,)), ("mean", (right,)), (None, (right,)), (True, (right,)), ["means", (right,)],
                ("means", [right]), ("means", ()), ("means", (right, right)), ("means", right), ("means", (right[:1],)), ("means", (right + ((),),)),
                ("means", (list(right),)), ("means", ((right[1], right[0]),)), ("means", None), (("means",), (right,)), ((right,), "means"),
                ("point",), ("point", (4, 0, 1), 1), ("points", (4, 0, 1)), ("bar", right[1]), ("means", (4, 0, 1)), ("point", (right,)), deep_tuple(100),
                ("means", deep_tuple(99))):
            self.fails(PLATE, (X,), (FOUR,), paper, "form")
            self.fails(PLATE, (X,), (THREE,), paper, "form")
        self.fails(PLATE, (Y, X), (FOUR,), ("means", (right,)), "form")

    def test_the_form_of_means_and_weights(self):
        for wrong in (
                None, [ALL], (), (ALL, ALL), (1,), ((2, 4),), ((1, 0),), ((1, -1),), ((True, 1),), ((1, True),), ([1, 1],), ((1,),), (None,), "a", ("a",),
                ((1.0, 1),), ((1, 1, 1),)):
            self.fails((("ge", X),), (X,), (FOUR,), ("means", ((wrong, (NONE,)),)), "form")
            self.fails((("ge", X),), (X,), (FOUR,), ("means", (((ALL,), wrong),)), "form")
            self.fails((("ge", X),), (ZERO, X), (FOUR,), ("means", (((ALL,), (NONE,)), ((ALL,), wrong))), "form")

    def test_the_form_of_points(self):
        for point in (None, [4, 0, 1], (4, 0), (4, 0, 1, 1), (4, True, 1), (8, 0, 2), (4, 0, 0), (4, 0, -1), ("4", 0, 1), ((4, 1), (0, 1)), (), 4):
            self.fails(PLATE, (X,), (THREE,), ("point", point), "form")

    def test_papers_stay_as_they_are(self):
        paper = ("means", [[[1, 1]]])
        self.fails(PLATE, (X,), (FOUR,), paper, "form")
        self.assertEqual(paper, ("means", [[[1, 1]]]))

    def test_values_are_told_right(self):
        chance = Random(3)
        for _ in range(100):
            system = some_system(chance, 2, 3, ("ge", "gt"))
            one, other = ((some_row(chance, 2),) for _ in range(2))
            paper = never_paper(2, system, one, other)
            if paper[0] == "point":
                left, right = (top_value(top, paper[1]) for top in (one, other))
                self.assertGreater(left[0] * right[1], right[0] * left[1])


if __name__ == "__main__":
    unittest.main()
