import unittest
from itertools import combinations
from random import Random

from chance import family_for, lowest_row, some_family
from everyfont.bars import is_bar, is_bar_of
from everyfont.boxes import box_of
from everyfont.breakings import beating, check_best, is_best, line_rows
from everyfont.errors import Empty, NotFont, NotNumber, NotPaper, TooGreat, Unlike
from everyfont.families import family_font, family_pairs
from everyfont.lines import breaking_badness
from everyfont.numbers import compared
from everyfont.rows import row_value
from everyfont.systems import first_false, holds_all
from wrong import ANYTHING, Within, deep_tuple, raised

A, B, C, D = ("sign", "a"), ("sign", "b"), ("sign", "c"), ("sign", "d")
ROW = ("row", A, B, C)
X, Y = ("wide", "b", 0), ("wide", "c", 0)
# a is 2 wide, b x, c y, 1 between; x and y from 4 to 5.
SYSTEM = (("ge", (1, 0, -4, 1)), ("ge", (-1, 0, 5, 1)), ("ge", (0, 1, -4, 1)), ("ge", (0, -1, 5, 1)))


def row_family(*system):
    family = family_for(ROW, X, Y, system=system)
    return (family[0], tuple((name, (2, 1) if name == ("wide", "a", 0) else number) for name, number in family[1]), system)


FAMILY = row_family(*SYSTEM)
PAIRS = SYSTEM + (("gt", (1, 0, 0, 1)), ("gt", (0, 1, 0, 1)))
ROOM = (10, 1)


def all_breakings(breaks):
    return sorted(own for many in range(len(breaks) + 1) for own in combinations(breaks, many))


def is_beaten_at(family, formula, room, breaks, breaking, point):
    """Return whether a BREAKING is not lawful or is beaten in a font, as its boxes tell."""
    font = family_font(family, point)
    own = breaking_badness(formula, font, room, breaking)
    if own is None:
        return True
    others = [breaking_badness(formula, font, room, other) for other in all_breakings(breaks)]
    return any(other is not None and compared(other, own) < 0 for other in others)


class LineRows(unittest.TestCase):
    def test_by_hand(self):
        rows = (
            (0, 1, (0, 0, 2, 1)), (0, 2, (1, 0, 3, 1)), (0, 3, (1, 1, 4, 1)), (1, 2, (1, 0, 0, 1)), (1, 3, (1, 1, 1, 1)), (2, 3, (0, 1, 0, 1)))
        self.assertEqual(line_rows(FAMILY, ROW), rows)
        self.assertEqual(line_rows(formula=ROW, family=FAMILY), rows)
        self.assertEqual(line_rows(family_for(("row", A), wide=3), ("row", A)), ((0, 1, (3, 1)),))
        family = family_for(ROW, X, ("space", 0), wide=2)
        # NAMES: space, x.
        self.assertEqual(line_rows(family, ROW)[2], (0, 3, (2, 1, 4, 1)))

    def test_parts_with_choices_that_the_family_settles(self):
        part = ("table", ((A,), (B,)))
        formula = ("row", part, B)
        # b is wider than a, and so is the column.
        family = family_for(formula, X, system=(("gt", (1, -1, 1)),))
        self.assertEqual(line_rows(family, formula), ((0, 1, (1, 4, 1)), (0, 2, (2, 5, 1)), (1, 2, (1, 0, 1))))
        raised(self, Unlike, line_rows, family_for(formula, X), formula)
        # Two ROWS for HIGH alone do no harm.
        formula = ("row", ("high", A, B), A)
        family = family_for(formula, ("high", "a", 0))
        self.assertEqual(line_rows(family, formula)[1], (0, 2, (0, 4, 1)))

    def test_sixteen_parts(self):
        formula = ("row", *((A, B) * 8))
        family = family_for(formula, ("wide", "a", 0), ("wide", "b", 0), ("space", 0))
        rows = line_rows(family, formula)
        self.assertEqual([row[:2] for row in rows], [(first, last) for first in range(16) for last in range(first + 1, 17)])
        self.assertEqual(rows[15], (0, 16, (15, 8, 8, 0, 1)))

    def test_by_chance(self):
        chance = Random(1)
        for _ in range(40):
            formula = ("row", *(chance.choice((A, B, C, ("bar", A), ("fence", ("row", A, B)), ("high", C, D))) for _ in range(chance.randint(1, 5))))
            family = some_family(chance, formula, chance.randint(0, 4), 5)
            point = tuple(chance.randint(1, 9) for _ in family[0]) + (1,)
            font = family_font(family, point)
            for first, last, row in line_rows(family, formula):
                self.assertEqual(row_value(row, point), box_of(("row", *formula[1 + first:1 + last]), font)[0])


class Beating(unittest.TestCase):
    def test_by_hand(self):
        found = (
            ((), 0, PAIRS + (("ge", (-1, -1, 6, 1)),)),
            ((1, 2), 0, PAIRS + (
                ("ge", (0, 0, 8, 1)), ("ge", (-1, 0, 10, 1)), ("ge", (0, -1, 10, 1)), ("gt", (0, 0, 0, 1)), ("gt", (1, 0, -2, 1)))),
            ((2,), 0, PAIRS + (("ge", (-1, 0, 7, 1)), ("ge", (0, -1, 10, 1)), ("gt", (1, 0, 1, 1)))))
        self.assertEqual(beating(FAMILY, ROW, ROOM, (1, 2), (1,)), found)
        self.assertEqual(beating(breaking=(1,), breaks=(1, 2), room=ROOM, formula=ROW, family=FAMILY), found)

    def test_several_lines(self):
        found = beating(FAMILY, ROW, ROOM, (1, 2), (1, 2))
        self.assertEqual([triple[:2] for triple in found], [((), 0), ((), 1), ((1,), 0), ((1,), 1), ((2,), 0), ((2,), 1)])
        # (1,): the line of a and that of b and c, the first one against LINE.
        lines = (("ge", (0, 0, 8, 1)), ("ge", (-1, -1, 9, 1)))
        self.assertEqual(found[2][2], PAIRS + lines + (("gt", (0, 0, 0, 1)),))
        self.assertEqual(found[3][2], PAIRS + lines + (("gt", (-1, 0, 2, 1)),))

    def test_no_lines_and_no_others(self):
        # The whole in one line has no line but the last one.
        self.assertEqual(beating(FAMILY, ROW, ROOM, (1, 2), ()), ())
        self.assertEqual(beating(FAMILY, ROW, ROOM, (), ()), ())
        self.assertEqual(beating(FAMILY, ROW, ROOM, (1,), (1,)), (((), 0, PAIRS + (("ge", (-1, -1, 6, 1)),)),))
        self.assertEqual(beating(family_for(("row", A)), ("row", A), ROOM, (), ()), ())

    def test_rooms_that_are_fractions(self):
        found = beating(FAMILY, ROW, (21, 2), (2,), (2,))
        self.assertEqual(found, (((), 0, PAIRS + (("ge", (-2, -2, 13, 2)),)),))

    def test_sixty_four_breakings(self):
        formula = ("row", *((A,) * 7))
        family = family_for(formula, ("wide", "a", 0))
        found = beating(family, formula, (9, 1), (1, 2, 3, 4, 5, 6), (1, 2, 3, 4, 5, 6))
        others = [own for own in all_breakings((1, 2, 3, 4, 5, 6)) if own != (1, 2, 3, 4, 5, 6)]
        self.assertEqual([triple[:2] for triple in found], [(own, line) for own in others for line in range(6)])


class IsBest(unittest.TestCase):
    def is_told(self, family, formula, room, breaks, breaking, word):
        """Hold is_best, and its PAPER, against what was worked out by hand."""
        with self.subTest(room=room, breaks=breaks, breaking=breaking):
            found = is_best(family, formula, room, breaks, breaking)
            self.assertEqual(is_best(breaking=breaking, breaks=breaks, room=room, formula=formula, family=family), found)
            self.assertEqual(found[0], word)
            self.assertEqual(check_best(family, formula, room, breaks, breaking, found), word)
            self.assertEqual(
                check_best(value=found, breaking=breaking, breaks=breaks, room=room, formula=formula, family=family), word)
            pairs, count = family_pairs(family), len(family[0])
            if word == "not":
                self.assertTrue(holds_all(count, pairs, found[1]))
                self.assertTrue(is_beaten_at(family, formula, room, breaks, breaking, found[1]))
                return
            systems = [triple[2] for triple in beating(family, formula, room, breaks, breaking)]
            self.assertEqual(len(found[1]), len(breaking) + 1 + len(systems))
            for system, weights in zip(systems, found[1][len(breaking) + 1:]):
                self.assertTrue(is_bar_of(count, system, weights))

    def test_by_hand(self):
        # (2,): badness 7 - x, that is 2 to 3. (1,): not lawful at x = y = 5. (1, 2): 8. (): 12 to 14 wide.
        for breaking, word in (((2,), "best"), ((1,), "not"), ((1, 2), "not"), ((), "not")):
            self.is_told(FAMILY, ROW, ROOM, (1, 2), breaking, word)
        # Without 2 there is (1,), which is not always lawful.
        self.is_told(FAMILY, ROW, ROOM, (1,), (1,), "not")
        self.is_told(FAMILY, ROW, (11, 1), (1,), (1,), "best")
        self.is_told(FAMILY, ROW, (11, 1), (1, 2), (1,), "not")
        self.is_told(FAMILY, ROW, (11, 1), (1, 2), (2,), "best")

    def test_the_whole_in_one_line(self):
        self.is_told(FAMILY, ROW, (14, 1), (1, 2), (), "best")
        self.is_told(FAMILY, ROW, (27, 2), (1, 2), (), "not")
        # Just at the width at x = y = 4 alone: (2,) has a badness above 0 there.
        self.is_told(FAMILY, ROW, (12, 1), (1, 2), (2,), "not")
        self.is_told(FAMILY, ROW, (12, 1), (2,), (2,), "not")
        self.is_told(row_family(("gt", (1, 0, -4, 1)), *SYSTEM[1:]), ROW, (12, 1), (2,), (2,), "best")
        self.is_told(FAMILY, ROW, (12, 1), (), (), "not")
        self.assertEqual(len(is_best(FAMILY, ROW, (14, 1), (), ())[1]), 1)

    def test_as_good_is_not_beaten(self):
        # a is 3, b from 2 to 3, c 1 wide, room 5: (1,) has badness 2, (1, 2) 5 - x, which is 2 at x = 3; no other one is lawful.
        family = family_for(ROW, X, system=(("ge", (1, -2, 1)), ("ge", (-1, 3, 1))))
        family = (family[0], tuple((name, (3, 1) if name == ("wide", "a", 0) else number) for name, number in family[1]), family[2])
        self.is_told(family, ROW, (5, 1), (1, 2), (1,), "best")
        self.is_told(family, ROW, (5, 1), (1, 2), (1, 2), "not")
        self.assertEqual(check_best(family, ROW, (5, 1), (1, 2), (1, 2), ("not", (5, 2))), "not")
        wrong = raised(self, NotPaper, check_best, family, ROW, (5, 1), (1, 2), (1, 2), ("not", (3, 1)))
        self.assertEqual(wrong.path, ("font",))

    def test_families_without_unknowns(self):
        family = family_for(ROW, wide=2)
        self.is_told(family, ROW, (5, 1), (1, 2), (2,), "best")
        self.is_told(family, ROW, (5, 1), (1, 2), (1,), "not")
        self.is_told(family, ROW, (1, 1), (1, 2), (1, 2), "not")
        self.is_told(family, ROW, (8, 1), (1, 2), (), "best")
        self.assertEqual(is_best(family, ROW, (5, 1), (1, 2), (1,)), ("not", (1,)))
        self.is_told(family_for(("row", A)), ("row", A), (1, 1), (), (), "best")
        self.is_told(family_for(("row", A)), ("row", A), (1, 2), (), (), "not")

    def test_fonts_that_are_not_inner(self):
        # Only at y = 5, x = 5 is the row too wide: at the rim.
        self.is_told(FAMILY, ROW, (139, 10), (1, 2), (), "not")

    def test_many_breakings(self):
        chance = Random(3)
        formula = ("row", *(("sign", letter) for letter in "abcdefghijklmnop"))
        unknown = [("wide", letter, 0) for letter in "abcdefghijkl"]
        system = []
        for number in range(12):
            unit = [int(own == number) for own in range(12)]
            system += [("ge", (*unit, -10, 1)), ("ge", (*(-own for own in unit), 12, 1))]
        spread = tuple(
            ("ge", lowest_row([chance.randint(-9, 9) for _ in range(12)] + [chance.randint(2000, 3000), 1])) for _ in range(16))
        # No line but those of 2, 4 and 5 parts fits in; all go from 8 to 12.
        breaks = (2, 4, 6, 8, 12, 14)
        for more in ((), spread):
            family = family_for(formula, *unknown, system=tuple(system) + more, wide=10)
            with Within(self, 30):
                found = is_best(family, formula, (60, 1), breaks, (4, 8, 12))
            self.assertEqual(found[0], "best")
            with Within(self, 30):
                self.assertEqual(check_best(family, formula, (60, 1), breaks, (4, 8, 12), found), "best")
            with Within(self, 30):
                self.assertEqual(is_best(family, formula, (60, 1), breaks, breaks)[0], "not")

class CheckBest(unittest.TestCase):
    # 5 - x and x - 7; 5 - y and y - 10; against (): x - 4, y - 4 and 6 - x - y; against (1,): x and - x - 1; against (1, 2): - 3.
    papers = (
        ((0, 1), (1, 1), (0, 1), (0, 1), (0, 1), (0, 1), (1, 1)),
        ((0, 1), (0, 1), (0, 1), (1, 1), (0, 1), (0, 1), (1, 1)),
        ((1, 1), (0, 1), (1, 1), (0, 1), (0, 1), (0, 1), (1, 1)),
        ((0, 1), (0, 1), (0, 1), (0, 1), (1, 1), (0, 1), (0, 1), (0, 1), (1, 1)),
        ((0, 1),) * 10 + ((1, 1),),
    )

    def check(self, value, breaking=(2,)):
        return check_best(FAMILY, ROW, ROOM, (1, 2), breaking, value)

    def test_papers_by_hand(self):
        self.assertEqual(self.check(("best", self.papers)), "best")
        systems = [PAIRS + (("gt", (1, 0, -7, 1)),), PAIRS + (("gt", (0, 1, -10, 1)),)]
        systems += [triple[2] for triple in beating(FAMILY, ROW, ROOM, (1, 2), (2,))]
        for system, weights in zip(systems, self.papers):
            self.assertTrue(is_bar(2, system, weights))
        # Those of another sequence are none.
        self.assertEqual(raised(self, NotPaper, self.check, ("best", self.papers[1:2] + self.papers[:1] + self.papers[2:])).path, ("bar", 0))

    def test_bars_that_are_none(self):
        for number, bar in enumerate(self.papers):
            for wrong in ANYTHING + (
                    bar[:-1], bar + ((0, 1),), list(bar), bar[:-1] + ((0, 1),), bar[:-1] + ((-1, 1),), bar[:-1] + ((2, 2),), bar[:-1] + (1,),
                    bar[:-1] + ((True, 1),), ((0, 1),) * len(bar), deep_tuple(99)):
                with self.subTest(number=number, wrong=wrong):
                    papers = self.papers[:number] + (wrong,) + self.papers[number + 1:]
                    self.assertEqual(raised(self, NotPaper, self.check, ("best", papers)).path, ("bar", number))
                    # The first one counts.
                    if number < 4:
                        papers = self.papers[:number] + (wrong, None) + self.papers[number + 2:]
                        self.assertEqual(raised(self, NotPaper, self.check, ("best", papers)).path, ("bar", number))

    def test_a_best_that_is_not(self):
        for breaking, systems in (((1,), 5), ((1, 2), 9), ((), 1)):
            wrong = raised(self, NotPaper, self.check, ("best", ((0, 1),) * systems), breaking)
            self.assertEqual(wrong.path, ("bar", 0))

    def test_fonts(self):
        # (1,) is beaten by (2,) everywhere; at x = y = 5 it is not lawful.
        for point in ((4, 4, 1), (5, 5, 1), (9, 9, 2), (5, 4, 1)):
            self.assertEqual(self.check(("not", point), (1,)), "not")
            self.assertEqual(self.check(("not", point), (1, 2)), "not")
            self.assertEqual(self.check(("not", point), ()), "not")
            self.assertEqual(raised(self, NotPaper, self.check, ("not", point)).path, ("font",))
        for point in ((3, 4, 1), (6, 4, 1), (4, 11, 2), (0, 0, 1), (-4, -4, 1)):
            for breaking in ((), (1,), (1, 2), (2,)):
                self.assertEqual(raised(self, NotPaper, self.check, ("not", point), breaking).path, ("font",))

    def test_fonts_where_others_are_as_good(self):
        family = family_for(ROW, X, Y, wide=1)
        # a and b are 1 wide, at room 5: () is 5 wide with c 1 wide. (1,) and (1, 2) have badness 4.
        for point, breaks, breaking, is_beaten in (
                ((1, 1, 1), (1, 2), (1, 2), True), ((1, 3, 1), (1,), (1,), False), ((1, 2, 1), (1, 2), (1, 2), True), ((2, 3, 1), (1,), (1,), True),
                ((1, 5, 1), (1, 2), (1, 2), True), ((3, 5, 1), (2,), (2,), False), ((3, 6, 1), (2,), (2,), True), ((1, 1, 1), (1,), (1,), True)):
            with self.subTest(point=point, breaking=breaking):
                self.assertEqual(is_beaten_at(family, ROW, (5, 1), breaks, breaking, point), is_beaten)
                value = ("not", point)
                if is_beaten:
                    self.assertEqual(check_best(family, ROW, (5, 1), breaks, breaking, value), "not")
                else:
                    wrong = raised(self, NotPaper, check_best, family, ROW, (5, 1), breaks, breaking, value)
                    self.assertEqual(wrong.path, ("font",))

    def test_forms(self):
        for value in ANYTHING + (
                ("best",), ("not",), ("best", self.papers, ()), ["best", self.papers], ("not", (4, 4, 1), ()), ("other", self.papers), (("best",), ()),
                ("best", list(self.papers)), ("best", self.papers[:-1]), ("best", self.papers + self.papers[:1]), ("best", None), ("best", "abcde"),
                ("not", (4, 4)), ("not", (4, 4, 1, 1)), ("not", [4, 4, 1]), ("not", (4, True, 1)), ("not", (4, 4, 0)), ("not", (8, 8, 2)), ("not", None),
                ("not", ((4, 1), (4, 1))), ("not", self.papers), ("best", (4, 4, 1)), deep_tuple(100)):
            with self.subTest(value):
                self.assertEqual(raised(self, NotPaper, self.check, value).path, ("form",))
        value = ["best", [[(0, 1)]]]
        raised(self, NotPaper, self.check, value)
        self.assertEqual(value, ["best", [[(0, 1)]]])


class Wrong(unittest.TestCase):
    with_room = (beating, is_best, lambda *five: check_best(*five, None))
    functions = (lambda family, formula, *_: line_rows(family, formula),) + with_room

    def test_other_formulas(self):
        for formula in (A, ("fence", ROW), ("row", ("row", A)), ("row", A, ("row", B)), ("row", *((A,) * 17)), ("table", ((A,),))):
            for function in self.functions:
                raised(self, Unlike, function, family_for(D), formula, None, None, None)

    def test_names_that_lack(self):
        for function in self.functions:
            self.assertEqual(raised(self, NotFont, function, FAMILY, ("row", A, D), None, None, None).name, ("deep", "d", 0))
            self.assertEqual(raised(self, NotFont, function, family_for(("row", A)), ("row", A, A), None, None, None).name, ("space", 0))
            nowhere = row_family(("gt", (-1, 0, 0, 1)))
            self.assertEqual(raised(self, NotFont, function, nowhere, ("row", A, D), None, None, None).name, ("deep", "d", 0))

    def test_families_without_inner_fonts(self):
        for system in ((("gt", (-1, 0, 0, 1)),), (("eq", (1, -1, 0, 1)),), (("ge", (1, 0, -2, 1)), ("ge", (-1, 0, 2, 1)))):
            for function in self.functions:
                raised(self, Empty, function, row_family(*system), ROW, None, None, None)

    def test_too_many_rows_and_more_than_one(self):
        many = ("fence", ("row", *(("table", ((("sign", letter),), (C,))) for letter in "defghiklm")))
        two = ("table", ((A,), (B,)))
        for formula, kind, letters in (
                (("row", two, many), TooGreat, "abdefghiklm"), (("row", many, A), TooGreat, "defghiklm"), (("row", A, two), Unlike, "ab"),
                (("row", two, two), Unlike, "ab")):
            family = family_for(formula, *[("wide", letter, 0) for letter in letters])
            for function in self.functions:
                raised(self, kind, function, family, formula, None, None, None)

    def test_rooms_breaks_and_breakings(self):
        for value in ANYTHING + ((0, 1), (-1, 1), (2, 2), (1, 0), (True, 1), [1, 1], deep_tuple(100)):
            for function in self.with_room:
                self.assertIs(raised(self, NotNumber, function, FAMILY, ROW, value, None, None).value, value)
        for value in ANYTHING + ([1], (0,), (3,), (1, 1), (2, 1), (True,), (1, 2, 3), (1.0,), ((1,),), deep_tuple(100)):
            for function in self.with_room:
                if value != ():
                    self.assertIs(raised(self, NotNumber, function, FAMILY, ROW, ROOM, value, None).value, value)
                    self.assertIs(raised(self, NotNumber, function, FAMILY, ROW, ROOM, (1, 2), value).value, value)
        for function in self.with_room:
            # PLACES that are no BREAKS.
            self.assertEqual(raised(self, NotNumber, function, FAMILY, ROW, ROOM, (1,), (2,)).value, (2,))
            self.assertEqual(raised(self, NotNumber, function, FAMILY, ROW, ROOM, (), (1,)).value, (1,))
            self.assertEqual(raised(self, NotNumber, function, FAMILY, ROW, ROOM, (2,), (1, 2)).value, (1, 2))

    def test_more_than_sixty_four_breakings(self):
        formula = ("row", *((A,) * 16))
        family = family_for(formula, ("wide", "a", 0))
        for function in self.with_room:
            for breaks in ((1, 2, 3, 4, 5, 6, 7), tuple(range(1, 16))):
                with Within(self, 5):
                    self.assertEqual(raised(self, TooGreat, function, family, formula, (9, 1), breaks, ()).most, 64)
                self.assertEqual(raised(self, NotNumber, function, family, formula, (9, 1), breaks, (16,)).value, (16,))
        self.assertEqual(len(beating(family, formula, (9, 1), (1, 2, 3, 4, 5, 6), (1,))), 63)


class ByChance(unittest.TestCase):
    def test_fonts_and_bars(self):
        chance = Random(2)
        told = {"best": 0, "not": 0}
        for _ in range(150):
            formula = ("row", *(chance.choice((A, B, C, ("bar", D))) for _ in range(chance.randint(1, 5))))
            family = some_family(chance, formula, 0, 4)
            size = len(family[0])
            system = []
            for number in range(size):
                unit = [int(own == number) for own in range(size)]
                low = chance.randint(1, 4)
                system += [("ge", (*unit, -low, 1)), (chance.choice(("ge", "gt")), (*(-own for own in unit), low + chance.randint(1, 3), 1))]
            family = (family[0], family[1], tuple(system))
            breaks = tuple(place for place in range(1, len(formula) - 1) if chance.random() < 0.8)
            breaking = chance.choice(all_breakings(breaks))
            room = (chance.randint(4, 40), 1)
            found = is_best(family, formula, room, breaks, breaking)
            told[found[0]] += 1
            self.assertEqual(check_best(family, formula, room, breaks, breaking, found), found[0])
            if found[0] == "not":
                self.assertTrue(is_beaten_at(family, formula, room, breaks, breaking, found[1]))
            points = [tuple(chance.randint(2, 14) for _ in range(size)) + (2,) for _ in range(20)]
            systems = [triple[2] for triple in beating(family, formula, room, breaks, breaking)]
            for point in [lowest_row(point) for point in points]:
                if first_false(family_pairs(family), point) is None:
                    is_beaten = is_beaten_at(family, formula, room, breaks, breaking, point)
                    if found[0] == "best":
                        self.assertFalse(is_beaten)
                    own = breaking_badness(formula, family_font(family, point), room, breaking)
                    if own is not None:
                        self.assertEqual(is_beaten, any(first_false(system, point) is None for system in systems))
        self.assertGreater(min(told.values()), 30)


if __name__ == "__main__":
    unittest.main()
