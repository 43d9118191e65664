import unittest
from fractions import Fraction
from itertools import combinations
from random import Random

from chance import some_font
from everyfont.boxes import box_of
from everyfont.errors import Empty, NotFont, NotNumber, NotPaper, Unlike
from everyfont.fonts import needed
from everyfont.lines import best_breaking, breaking_badness, check_lines, least_badness, line_wide, lines_paper
from wrong import ANYTHING, Within, deep_tuple, raised

A, B, C, D = ("sign", "a"), ("sign", "b"), ("sign", "c"), ("sign", "d")
ROW = ("row", A, B, C, D)


def font_of(formula, wide, space=(1, 1)):
    """Return a FONT of a "row" of signs with these widths by their letters; all else is 1."""
    told = {"wide": lambda name: wide[name[1]], "space": lambda name: space}
    return tuple((name, told.get(name[0], lambda name: (1, 1))(name)) for name in needed(formula))


# a 2, b 3, c 4, d 5 wide, 1 between: lines are 2, 6, 11, 17; 3, 8, 14; 4, 10; 5 wide.
FONT = font_of(ROW, {"a": (2, 1), "b": (3, 1), "c": (4, 1), "d": (5, 1)})


def told_badness(formula, font, room, breaking):
    """Return the badness of a BREAKING as the document tells it, None if it is not lawful."""
    last = len(formula) - 1
    places = (0, *breaking, last)
    found = []
    for first, end in zip(places, places[1:]):
        left = Fraction(*room) - Fraction(*box_of(("row", *formula[1 + first:1 + end]), font)[0])
        if left < 0:
            return None
        found.append(Fraction(0) if end == last else left)
    return max(found)


def all_breakings(breaks):
    return [breaking for many in range(len(breaks) + 1) for breaking in combinations(breaks, many)]


class ByHand(unittest.TestCase):
    def test_line_wide(self):
        wides = {
            (0, 1): 2, (0, 2): 6, (0, 3): 11, (0, 4): 17, (1, 2): 3, (1, 3): 8, (1, 4): 14, (2, 3): 4, (2, 4): 10, (3, 4): 5}
        for (first, last), wide in wides.items():
            self.assertEqual(line_wide(ROW, FONT, first, last), (wide, 1))
            self.assertEqual(line_wide(last=last, first=first, font=FONT, formula=ROW), (wide, 1))
            self.assertEqual(box_of(("row", *ROW[1 + first:1 + last]), FONT)[0], (wide, 1))
        self.assertEqual(line_wide(("row", B), FONT, 0, 1), (3, 1))
        self.assertEqual(line_wide(("row", ("bar", ("row", A, B)), C), put(FONT), 0, 1), (6, 1))

    def test_breaking_badness(self):
        for room, breaking, badness in (
                (17, (), 0), (16, (), None), (11, (3,), 0), (11, (2,), 5), (11, (1,), None), (10, (2,), 4), (10, (1, 3), 8), (9, (2,), None),
                (8, (1, 3), 6), (8, (2, 3), 4), (8, (1, 2, 3), 6), (5, (1, 2, 3), 3), (4, (1, 2, 3), None), (100, (1, 2, 3), 98), (100, (), 0)):
            found = None if badness is None else (badness, 1)
            self.assertEqual(breaking_badness(ROW, FONT, (room, 1), breaking), found)
            self.assertEqual(breaking_badness(breaking=breaking, room=(room, 1), font=FONT, formula=ROW), found)
        self.assertEqual(breaking_badness(ROW, FONT, (21, 2), (2,)), (9, 2))
        self.assertEqual(breaking_badness(ROW, FONT, (10, 1), (2,)), (4, 1))
        self.assertIsNone(breaking_badness(ROW, FONT, (19, 2), (2,)))
        self.assertEqual(breaking_badness(("row", D), FONT, (5, 1), ()), (0, 1))
        self.assertIsNone(breaking_badness(("row", D), FONT, (49, 10), ()))

    def test_least_and_best(self):
        for room, breaks, badness, best in (
                (17, (1, 2, 3), 0, ()), (17, (), 0, ()), (16, (), None, None), (16, (1, 2, 3), 5, (3,)), (16, (1, 2), 10, (2,)), (16, (1,), 14, (1,)),
                (11, (1, 2, 3), 0, (3,)), (10, (1, 2, 3), 4, (2,)), (10, (1, 3), 8, (1, 3)), (10, (3,), None, None), (10, (2,), 4, (2,)),
                (8, (1, 2, 3), 4, (2, 3)), (8, (1, 3), 6, (1, 3)), (8, (2, 3), 4, (2, 3)), (8, (1, 2), None, None), (5, (1, 2, 3), 3, (1, 2, 3)),
                (5, (1, 2), None, None), (4, (1, 2, 3), None, None), (1, (1, 2, 3), None, None)):
            with self.subTest(room=room, breaks=breaks):
                self.assertEqual(least_badness(ROW, FONT, (room, 1), breaks), None if badness is None else (badness, 1))
                self.assertEqual(least_badness(breaks=breaks, room=(room, 1), font=FONT, formula=ROW), least_badness(ROW, FONT, (room, 1), breaks))
                if best is None:
                    raised(self, Empty, best_breaking, ROW, FONT, (room, 1), breaks)
                else:
                    self.assertEqual(best_breaking(ROW, FONT, (room, 1), breaks), best)
                    self.assertEqual(best_breaking(breaks=breaks, room=(room, 1), font=FONT, formula=ROW), best)

    def test_several_best_ones(self):
        # All parts are 2 wide, with no space: only the greatest badness counts, then the lines, then the PLACES.
        row = ("row", A, A, A, A, A, A)
        font = font_of(row, {"a": (2, 1)}, (0, 1))
        self.assertEqual(best_breaking(row, font, (6, 1), (1, 2, 3, 4, 5)), (3,))
        # Room for 2: three lines, two lines of 2 and what is left.
        self.assertEqual(best_breaking(row, font, (5, 1), (1, 2, 3, 4, 5)), (2, 4))
        # Without 4: 2, 3 or 5 in four lines; (1, 3, 5), (2, 3, 5), badness 3 for both.
        self.assertEqual(best_breaking(row, font, (5, 1), (1, 2, 3, 5)), (1, 3, 5))
        self.assertEqual(least_badness(row, font, (5, 1), (1, 2, 3, 5)), (3, 1))
        # One line more would be less than four, but as bad: fewest lines first, then the least.
        self.assertEqual(best_breaking(row, font, (9, 1), (1, 2, 3, 4, 5)), (4,))
        self.assertEqual(best_breaking(row, font, (9, 1), (1, 2, 3)), (3,))
        self.assertEqual(best_breaking(row, font, (7, 1), (1, 2, 4)), (2, 4))
        self.assertEqual(best_breaking(row, font, (7, 1), (1, 4, 5)), (1, 4))
        self.assertEqual(best_breaking(row, font, (7, 1), (3, 4, 5)), (3,))

    def test_one_part_and_sixteen(self):
        self.assertEqual(lines_paper(("row", A), FONT, (2, 1), ()), ("best", (), ()))
        self.assertEqual(lines_paper(("row", A), FONT, (1, 1), ()), ("none", (0,)))
        row = ("row", *((A, B, C, D) * 4))
        breaks = tuple(range(1, 16))
        with Within(self, 5):
            self.assertEqual(least_badness(row, FONT, (17, 1), breaks), (0, 1))
        self.assertEqual(best_breaking(row, FONT, (17, 1), breaks), (4, 8, 12))
        self.assertEqual(line_wide(row, FONT, 0, 16), (71, 1))
        self.assertEqual(least_badness(row, FONT, (71, 1), breaks), (0, 1))
        self.assertEqual(best_breaking(row, FONT, (71, 1), breaks), ())

    def test_words_in_parts(self):
        # A row in a bar is no part of the row itself; its space is at the same level.
        row = ("row", ("bar", ("row", A, B)), ("fence", ("row", C)), A)
        font = font_of(row, {"a": (2, 1), "b": (3, 1), "c": (4, 1)}, (1, 2))
        self.assertEqual(line_wide(row, font, 0, 1), (11, 2))
        self.assertEqual(line_wide(row, font, 0, 2), (14, 1))
        self.assertEqual(line_wide(row, font, 1, 3), (21, 2))

    def test_fonts_that_are_not_lawful(self):
        font = font_of(("row", A, B), {"a": (-3, 1), "b": (2, 1)}, (-1, 1))
        self.assertEqual(line_wide(("row", A, B), font, 0, 2), (-2, 1))
        self.assertEqual(least_badness(("row", A, B), font, (1, 1), (1,)), (0, 1))
        self.assertEqual(breaking_badness(("row", A, B), font, (2, 1), (1,)), (5, 1))


class Papers(unittest.TestCase):
    def is_told(self, room, breaks, paper, shown, wrong=()):
        """Hold the least PAPER, and ones that are wrong by the word told, against what they show."""
        self.assertEqual(lines_paper(ROW, FONT, room, breaks), paper)
        self.assertEqual(lines_paper(breaks=breaks, room=room, font=FONT, formula=ROW), paper)
        self.assertEqual(check_lines(ROW, FONT, room, breaks, paper), shown)
        self.assertEqual(check_lines(value=paper, breaks=breaks, room=room, font=FONT, formula=ROW), shown)
        for value, word in wrong:
            with self.subTest(value, room=room, breaks=breaks):
                self.assertEqual(raised(self, NotPaper, check_lines, ROW, FONT, room, breaks, value).path, (word,))

    def test_none(self):
        # Room 4: a, b, c fit, d does not.
        self.is_told((4, 1), (1, 2, 3), ("none", (0, 1, 2, 3)), None, [
            (("none", (0, 1, 2)), "lot"), (("none", (0, 1, 3)), "lot"), (("none", (1, 2, 3)), "lot"), (("none", ()), "lot"), (("none", (0,)), "lot"),
            (("none", (0, 1, 2, 3, 4)), "lot"), (("none", (0, 2, 1, 3)), "lot"), (("none", (0, 0, 1, 2, 3)), "lot"), (("none", (-1, 0, 1, 2, 3)), "lot"),
            (("best", (), ()), "breaking"), (("best", (1, 2, 3), (0, 1, 2, 3)), "breaking")])
        self.is_told((8, 1), (1, 2), ("none", (0, 1, 2)), None, [(("none", (0, 1)), "lot"), (("none", (0, 2)), "lot")])
        self.is_told((1, 1), (1, 2, 3), ("none", (0,)), None, [(("none", (1,)), "lot"), (("none", ()), "lot")])
        # PLACES to which nothing leads may be there, too, if no line leads out of them.
        self.assertIsNone(check_lines(ROW, FONT, (1, 1), (1, 2, 3), ("none", (0, 1, 2, 3))))
        self.assertIsNone(check_lines(ROW, FONT, (1, 1), (), ("none", (0, 2))))
        self.assertEqual(raised(self, NotPaper, check_lines, ROW, FONT, (5, 1), (1, 2), ("none", (0, 1, 2, 3))).path, ("lot",))

    def test_best(self):
        # Room 10, badness 4: lines with less are b c from 1, c d from 2, .. none from 0.
        self.is_told((10, 1), (1, 2, 3), ("best", (2,), (0,)), (4, 1), [
            (("best", (2,), ()), "lot"), (("best", (2,), (1,)), "lot"), (("best", (2,), (0, 2)), "lot"), (("best", (2,), (0, 1, 3)), "lot"),
            (("best", (3,), (0,)), "breaking"), (("best", (1,), (0,)), "breaking"), (("best", (), (0,)), "breaking"), (("best", (2, 1), (0,)), "breaking"),
            (("best", (2, 2), (0,)), "breaking"), (("best", (0, 2), (0,)), "breaking"), (("best", (2, 4), (0,)), "breaking"),
            # A BREAKING that is not the best one leads to itself.
            (("best", (1, 3), (0,)), "lot"), (("best", (1, 3), (0, 2)), "lot"), (("best", (1, 2, 3), (0, 1, 2, 3)), "lot"), (("none", (0,)), "lot"),
            (("none", (0, 1, 2, 3)), "lot")])
        # 1 leads to 3 by a line of badness 2, and from there to the end.
        self.assertEqual(raised(self, NotPaper, check_lines, ROW, FONT, (10, 1), (1, 2, 3), ("best", (2,), (0, 1))).path, ("lot",))
        self.assertEqual(check_lines(ROW, FONT, (10, 1), (1, 2), ("best", (2,), (0,))), (4, 1))
        # Another BREAKING with the least badness does as well.
        self.is_told((8, 1), (1, 2, 3), ("best", (2, 3), (0, 2)), (4, 1), [
            (("best", (2, 3), (0,)), "lot"), (("best", (1, 2, 3), (0, 2)), "lot"), (("best", (2,), (0, 2)), "breaking"), (("best", (2, 3), (0, 2, 3)), "lot")])
        self.is_told((16, 1), (1, 2, 3), ("best", (3,), (0,)), (5, 1))

    def test_badness_zero(self):
        for room, breaks, breaking in ((17, (1, 2, 3), ()), (17, (), ()), (11, (3,), (3,)), (11, (1, 2, 3), (3,))):
            self.is_told((room, 1), breaks, ("best", breaking, ()), (0, 1), [
                (("best", breaking, (0,)), "lot"), (("best", breaking, (0, 1)), "lot"), (("none", (0,)), "lot"), (("none", ()), "lot")])

    def test_breaks_alone(self):
        # PLACES that are no BREAKS do not count.
        self.assertEqual(raised(self, NotPaper, check_lines, ROW, FONT, (11, 1), (1, 2), ("best", (3,), ())).path, ("breaking",))
        self.assertEqual(lines_paper(ROW, FONT, (11, 1), (1, 2)), ("best", (2,), (0,)))

    def test_forms(self):
        for value in ANYTHING + (
                ["none", (0,)], ("none",), ("none", (0,), ()), ("none", [0]), ("none", (True,)), ("none", ((0,),)), ("none", None), ("none", "0"), ("none", (0, "1")),
                ("best", (2,)), ("best", (2,), (0,), ()), ("best", [2], (0,)), ("best", (2,), [0]), ("best", (True,), (0,)), ("best", (2,), (0, False)),
                ("best", None, (0,)), ("best", ((2,),), (0,)), ("other", (0,)), ("", (0,)), (("none",), (0,)), deep_tuple(100), ("best", (2,), (1.0,))):
            for room in ((10, 1), (4, 1)):
                with self.subTest(value, room=room):
                    self.assertEqual(raised(self, NotPaper, check_lines, ROW, FONT, room, (1, 2, 3), value).path, ("form",))
        value = ["best", [2], [0]]
        raised(self, NotPaper, check_lines, ROW, FONT, (10, 1), (1, 2, 3), value)
        self.assertEqual(value, ["best", [2], [0]])

    def test_great_integers(self):
        for paper in (("none", (0, 10 ** 3999)), ("best", (2,), (0, -10 ** 3999))):
            self.assertEqual(raised(self, NotPaper, check_lines, ROW, FONT, (10, 1), (2,), paper).path, ("lot",))
        self.assertEqual(raised(self, NotPaper, check_lines, ROW, FONT, (10, 1), (2,), ("best", (10 ** 3999,), (0,))).path, ("breaking",))


class Wrong(unittest.TestCase):
    functions = (
        breaking_badness, least_badness, best_breaking, lines_paper,
        lambda formula, font, room, breaks: check_lines(formula, font, room, breaks, None))

    def test_other_formulas(self):
        for formula in (A, ("fence", ROW), ("row", ("row", A)), ("row", A, ("row", B)), ("row", *((A,) * 17)), ("over", A, B), ("table", ((A,),))):
            for font in (FONT, ()):
                raised(self, Unlike, line_wide, formula, font, 0, 1)
                for function in self.functions:
                    raised(self, Unlike, function, formula, font, None, None)
        self.assertEqual(least_badness(("row", *((A,) * 16)), FONT, (99, 1), ()), (0, 1))
        self.assertEqual(least_badness(("row", ("fence", ("row", A))), put(FONT), (99, 1), ()), (0, 1))

    def test_names_that_lack(self):
        for number, (name, _) in enumerate(FONT):
            fewer = FONT[:number] + FONT[number + 1:]
            self.assertEqual(raised(self, NotFont, line_wide, ROW, fewer, 0, 1).name, name)
            for function in self.functions:
                self.assertEqual(raised(self, NotFont, function, ROW, fewer, None, None).name, name)
                self.assertEqual(raised(self, NotFont, function, ROW, (), (1, 1), ()).name, ("deep", "a", 0))
        # A row of one part needs no space.
        self.assertEqual(line_wide(("row", A), tuple(pair for pair in FONT if pair[0] != ("space", 0)), 0, 1), (2, 1))

    def test_rooms(self):
        for value in ANYTHING + ((0, 1), (-1, 1), (2, 2), (1, 0), (1, -1), (True, 1), (1, True), [1, 1], (1,), (1, 1, 1), deep_tuple(100)):
            for function in self.functions:
                for breaks in ((), (1,), None):
                    self.assertIs(raised(self, NotNumber, function, ROW, FONT, value, breaks).value, value)

    def test_breaks(self):
        wrong = ANYTHING + (
            [1, 2], (0,), (4,), (-1,), (1, 1), (2, 1), (1, 2, 3, 4), (0, 1), (True,), (1, True), (1, (2,)), (1, None), (1.0,), "12", 1, (10 ** 3999,),
            deep_tuple(100))
        for value in wrong:
            if value != ():
                for function in self.functions:
                    self.assertIs(raised(self, NotNumber, function, ROW, FONT, (9, 1), value).value, value)
        for function in self.functions:
            self.assertEqual(raised(self, NotNumber, function, ("row", A), FONT, (9, 1), (1,)).value, (1,))
        value = [2, 1]
        raised(self, NotNumber, least_badness, ROW, FONT, (9, 1), value)
        self.assertEqual(value, [2, 1])


class ByChance(unittest.TestCase):
    def test_against_all_breakings(self):
        chance = Random(2)
        told = {"none": 0, "best": 0, "zero": 0}
        for _ in range(300):
            parts = [chance.choice((A, B, C, ("bar", ("row", A, B)), ("fence", C), ("over", A, ("row", B, B)))) for _ in range(chance.randint(1, 8))]
            formula = ("row", *parts)
            font = some_font(chance, needed(formula))
            breaks = tuple(place for place in range(1, len(parts)) if chance.random() < 0.8)
            room = (chance.randint(4, 60), chance.randint(1, 2))
            room = room if room[0] % room[1] or room[1] == 1 else (room[0] // 2, 1)
            found = [(told_badness(formula, font, room, breaking), len(breaking), breaking) for breaking in all_breakings(breaks)]
            for badness, _, breaking in chance.sample(found, min(5, len(found))):
                own = breaking_badness(formula, font, room, breaking)
                self.assertEqual(None if own is None else Fraction(*own), badness)
            lawful = [own for own in found if own[0] is not None]
            least = least_badness(formula, font, room, breaks)
            paper = lines_paper(formula, font, room, breaks)
            self.assertEqual(check_lines(formula, font, room, breaks, paper), least)
            if not lawful:
                self.assertIsNone(least)
                self.assertEqual(paper[0], "none")
                raised(self, Empty, best_breaking, formula, font, room, breaks)
                told["none"] += 1
                continue
            best = min(lawful)
            self.assertEqual(Fraction(*least), best[0])
            self.assertEqual(best_breaking(formula, font, room, breaks), best[2])
            self.assertEqual(paper[:2], ("best", best[2]))
            told["best" if best[0] else "zero"] += 1
            self.no_less_lot(formula, font, room, breaks, paper)
        self.assertGreater(min(told.values()), 20)

    def no_less_lot(self, formula, font, room, breaks, paper):
        """Leave out each PLACE of a LOT."""
        for place in paper[-1]:
            fewer = tuple(own for own in paper[-1] if own != place)
            self.assertEqual(raised(self, NotPaper, check_lines, formula, font, room, breaks, paper[:-1] + (fewer,)).path, ("lot",))


def put(font):
    """Return a FONT with the NAMES of rules, too."""
    return tuple(sorted(font + ((("gap", 0), (1, 1)), (("rule", 0), (1, 1)))))


if __name__ == "__main__":
    unittest.main()
