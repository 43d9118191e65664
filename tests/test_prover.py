import unittest
from fractions import Fraction
from random import Random

from chance import as_fraction, family_for, some_claim, some_family, some_font, some_formulas
from everyfont.claims import apart, broken, check_claim, fits, is_so
from everyfont.errors import NotFont, NotPaper, TooGreat
from everyfont.families import check_family, family_font, is_font_of
from everyfont.fonts import needed
from everyfont.formulas import check_formula, words_of
from everyfont.prover import check_judged, judge
from everyfont.spans import open_steps
from everyfont.trees import check_tree, tree_leaves, tree_splits
from leaftold import Rows, is_tree
from test_trees import BAR, BAR_A, BAR_B, FAMILY, HIGH_ENOUGH, LOW_ENOUGH, ROW, TREE, bar, told
from wrong import ANYTHING, Within, deep_tuple, raised

A, B, C = ("sign", "a"), ("sign", "b"), ("sign", "c")
WIDE_A, WIDE_B, HIGH_A, HIGH_B = ("wide", "a", 0), ("wide", "b", 0), ("high", "a", 0), ("high", "b", 0)
ONE, LESS = (1, 1), (-1, 1)
SO, NEVER = ("and",), ("or",)
RIGHT, TOP = ((), "right"), ((), "top")
SEVEN = ("or",) + (told("eq"),) * 7


def columns(many, letters="ab"):
    """Return a row of tables of one column, with these signs below one another."""
    return check_formula(("row",) + (("table", tuple((("sign", letter),) for letter in letters)),) * many)


def all_unknown(formula):
    """Return the FAMILY of all lawful fonts of the NAMES that a FORMULA needs, at most twelve."""
    return check_family((needed(formula), (), ()))


class Told(unittest.TestCase):
    def is_told(self, formula, family, claim, word):
        """Hold judge against a word, look its paper through, and return the second thing."""
        with self.subTest(claim, formula=formula):
            check_claim(formula, claim)
            found = judge(formula, family, claim)
            self.assertEqual(judge(claim=claim, family=family, formula=formula), found)
            self.assertIs(type(found), tuple)
            self.assertEqual((len(found), found[0]), (2, word))
            self.assertEqual(check_judged(formula, family, claim, found), word)
            if word == "holds":
                self.assertIs(check_tree(formula, family, claim, found[1]), True)
                self.assertTrue(is_tree(Rows(formula, family), broken(claim), found[1]))
            else:
                font = family_font(family, found[1])
                self.assertIs(is_font_of(family, font), True)
                self.assertIs(is_so(formula, font, claim), False)
            return found[1]

    def test_by_hand(self):
        self.is_told(ROW, FAMILY, HIGH_ENOUGH, "holds")
        tree = self.is_told(ROW, FAMILY, LOW_ENOUGH, "holds")
        self.assertEqual((tree_leaves(tree), tree_splits(tree)), (2, 1))
        self.is_told(ROW, FAMILY, told("le", (TOP, ONE), (HIGH_A, LESS)), "broken")
        self.is_told(ROW, FAMILY, told("lt", (TOP, ONE), (HIGH_A, LESS), (HIGH_B, LESS)), "holds")
        self.is_told(ROW, FAMILY, told("gt", (TOP, ONE), (HIGH_A, LESS)), "broken")
        self.is_told(ROW, FAMILY, told("ge", (TOP, ONE), (None, (-2, 1))), "holds")
        self.is_told(ROW, FAMILY, told("gt", (TOP, ONE), (None, (-2, 1))), "broken")
        self.is_told(ROW, FAMILY, ("or", told("eq", (TOP, ONE), (HIGH_A, LESS)), told("eq", (TOP, ONE), (HIGH_B, LESS))), "holds")
        self.is_told(ROW, FAMILY, told("eq", (RIGHT, ONE), (None, (-3, 1))), "holds")
        self.is_told(ROW, FAMILY, told("ne", (RIGHT, ONE), (None, (-3, 1))), "broken")

    def test_fits(self):
        for word, is_met in (("ge", True), ("gt", False)):
            family = family_for(ROW, WIDE_A, system=((word, (-1, 3, 1)),))
            for width, found in (((5, 1), "holds"), ((11, 2), "holds"), ((49, 10), "broken"), ((5 * 10 ** 30 - 1, 10 ** 30), "broken"), ((0, 1), "broken")):
                self.is_told(ROW, family, fits(width), found)
            self.is_told(ROW, family, told("lt", (RIGHT, ONE), (None, (-5, 1))), "broken" if is_met else "holds")
        free = family_for(ROW, WIDE_A)
        self.is_told(ROW, free, fits((10 ** 6, 1)), "broken")
        # 10: a's wide must be more than that.
        top, bottom = self.is_told(ROW, free, fits((12, 1)), "broken")
        self.assertGreater(top, 10 * bottom)

    def test_what_is_so_in_all_lawful_fonts(self):
        over, row, high = ("over", A, B), ("row", A, B), ("high", A, B)
        limits = ("limits", "s", A, B)
        for formula, claim in (
                (over, apart((1,), (2,))), (row, apart((1,), (2,))), (high, apart((1,), (2,))), (("low", A, B), apart((2,), (1,))),
                (over, told("gt", (RIGHT, ONE), (((1,), "right"), LESS))), (over, told("ge", (((1,), "bottom"), ONE), (("axis", 0), LESS), (("rule", 0), LESS))),
                (high, told("ge", (TOP, ONE), (((2,), "top"), LESS))), (high, told("ge", (((2,), "base"), ONE), (("rise", 0), LESS))),
                (("fence", A), told("gt", (RIGHT, ONE), (((1,), "right"), LESS), (("gap", 0), LESS))),
                (row, told("eq", (RIGHT, ONE), (((2,), "right"), LESS))), (over, told("le", (((), "bottom"), ONE), (((2,), "bottom"), LESS)))):
            self.is_told(formula, all_unknown(formula), claim, "holds")
        family = family_for(limits, ("fall", 0), ("gap", 0), ("rise", 0), ("high", "a", 1), ("deep", "b", 1), ("high", "s", 0), ("deep", "s", 0))
        self.is_told(limits, family, apart((2,), (3,)), "holds")
        for formula, claim in (
                (over, told("eq", (((1,), "left"), ONE), (((2,), "left"), LESS))), (over, told("eq", (((1,), "base"), ONE), (("rise", 0), LESS))),
                (row, apart((), (1,))), (high, told("eq", (((2,), "base"), ONE), (("rise", 0), LESS))), (over, ("not", apart((1,), (2,)))),
                (over, told("ge", (((1,), "left"), ONE), (((2,), "left"), LESS)))):
            self.is_told(formula, all_unknown(formula), claim, "broken")

    def test_raised_and_lowered_parts_meet(self):
        # Nothing keeps G and H of "both" apart; with fall and rise that are great enough they are.
        both = ("both", A, B, C)
        names = (("fall", 0), ("rise", 0), ("deep", "c", 1), ("high", "b", 1), ("high", "a", 0), ("deep", "a", 0))
        free = family_for(both, *names)
        self.is_told(both, free, apart((2,), (3,)), "broken")
        count = len(free[0])
        index = {name: number for number, name in enumerate(free[0])}
        row = [0] * (count + 2)
        row[index[("fall", 0)]] = row[index[("rise", 0)]] = row[-1] = 1
        row[index[("deep", "c", 1)]] = row[index[("high", "b", 1)]] = -1
        self.is_told(both, family_for(both, *names, system=(("ge", tuple(row)),)), apart((2,), (3,)), "holds")

    def test_each_word(self):
        # a is 2 wide at least, 4 at most: its right is from 2 to 4.
        family = family_for(A, WIDE_A, system=(("ge", (1, -2, 1)), ("ge", (-1, 4, 1))))
        for word, least, most in (("lt", 5, 4), ("le", 4, 3), ("ge", 2, 3), ("gt", 1, 2)):
            for number, found in ((least, "holds"), (most, "broken")):
                self.is_told(A, family, told(word, (RIGHT, ONE), (None, (-number, 1))), found)
        self.is_told(A, family, told("ne", (RIGHT, ONE), (None, (-1, 1))), "holds")
        self.is_told(A, family, told("ne", (RIGHT, ONE), (None, (-5, 1))), "holds")
        self.assertEqual(self.is_told(A, family, told("ne", (RIGHT, ONE), (None, (-3, 1))), "broken"), (3, 1))
        self.is_told(A, family, told("eq", (RIGHT, ONE), (None, (-3, 1))), "broken")
        self.is_told(A, family, told("eq", (RIGHT, ONE), (WIDE_A, LESS)), "holds")
        self.is_told(A, family, ("not", told("eq", (RIGHT, ONE), (None, (-1, 1)))), "holds")
        self.is_told(A, family, ("and", told("ge", (RIGHT, ONE)), told("lt", (RIGHT, ONE), (None, (-4, 1)))), "broken")
        self.is_told(A, family, ("or", told("le", (RIGHT, ONE), (None, (-3, 1))), told("ge", (RIGHT, ONE), (None, (-3, 1)))), "holds")
        self.is_told(A, family, ("or", told("lt", (RIGHT, ONE), (None, (-3, 1))), told("gt", (RIGHT, ONE), (None, (-3, 1)))), "broken")

    def test_no_parts(self):
        family = family_for(A, WIDE_A)
        self.assertEqual(self.is_told(A, family, SO, "holds"), ("case", ()))
        self.is_told(A, family, NEVER, "broken")
        self.is_told(A, family, ("not", NEVER), "holds")
        self.is_told(A, family, ("not", SO), "broken")
        self.is_told(A, family, told("eq"), "holds")
        self.is_told(A, family, told("ne"), "broken")
        self.is_told(A, family, told("eq", (RIGHT, (0, 1)), (None, (0, 1))), "holds")

    def test_families_without_fonts(self):
        for system in ((("ge", (-1, 0, 0, 1)),), (("gt", (0, 0, 0, 1)),), (("eq", (1, 0, -1, 1)), ("eq", (1, 0, -2, 1)))):
            family = family_for(ROW, HIGH_A, HIGH_B, system=system)
            for claim in (NEVER, SO, told("ne"), LOW_ENOUGH, ("or", told("lt", (RIGHT, ONE)), NEVER)):
                self.is_told(ROW, family, claim, "holds")
        nothing = ((), family_for(ROW)[1], (("gt", (0, 1)),))
        self.is_told(ROW, nothing, NEVER, "holds")

    def test_one_font_and_no_unknowns(self):
        family = family_for(ROW, HIGH_A, system=(("eq", (2, -5, 1)),))
        self.is_told(ROW, family, told("eq", (TOP, (2, 1)), (None, (-5, 1))), "holds")
        self.assertEqual(self.is_told(ROW, family, told("gt", (TOP, (2, 1)), (None, (-5, 1))), "broken"), (5, 2))
        fixed = family_for(ROW)
        self.is_told(ROW, fixed, told("eq", (TOP, ONE), (None, (-1, 1))), "holds")
        self.assertEqual(self.is_told(ROW, fixed, told("ne", (TOP, ONE), (None, (-1, 1))), "broken"), (1,))

    def test_gt_pairs_alone_close_it_off(self):
        # high a > high b: then the top is not high b; with "ge" it may be.
        claim = told("gt", (TOP, ONE), (HIGH_B, LESS))
        self.is_told(ROW, family_for(ROW, HIGH_A, HIGH_B, system=(("gt", (1, -1, 0, 1)),)), claim, "holds")
        self.is_told(ROW, family_for(ROW, HIGH_A, HIGH_B, system=(("ge", (1, -1, 0, 1)),)), claim, "broken")
        self.is_told(A, family_for(A, WIDE_A), told("gt", (RIGHT, ONE)), "holds")
        self.is_told(A, family_for(A, ("deep", "a", 0)), told("lt", (((), "bottom"), ONE)), "broken")

    def test_eq_pairs(self):
        family = family_for(ROW, HIGH_A, HIGH_B, system=(("eq", (1, -2, 0, 1)),))
        self.is_told(ROW, family, told("eq", (TOP, ONE), (HIGH_A, LESS)), "holds")
        self.is_told(ROW, family, told("eq", (TOP, ONE), (HIGH_B, (-2, 1))), "holds")
        self.is_told(ROW, family, told("eq", (TOP, ONE), (HIGH_B, LESS)), "broken")

    def test_greatest_ones_within_greatest_ones(self):
        # The whole is as wide as the widest of a, b, c: at least their mean, at most their sum.
        formula = ("table", ((("table", ((A,), (B,))),), (C,)))
        family = family_for(formula, WIDE_A, WIDE_B, ("wide", "c", 0))
        three = [(WIDE_A, WIDE_B, ("wide", "c", 0))[k] for k in range(3)]
        mean = told("ge", (RIGHT, ONE), *((name, (-1, 3)) for name in three), (None, (-2, 1)))
        self.is_told(formula, family, mean, "holds")
        self.is_told(formula, family, told("le", (RIGHT, ONE), *((name, LESS) for name in three), (None, (-8, 1))), "holds")
        self.is_told(formula, family, told("le", (RIGHT, ONE), (WIDE_A, LESS), (WIDE_B, LESS), (None, (-8, 1))), "broken")
        self.is_told(formula, family, told("ge", (RIGHT, ONE), *((name, (-2, 3)) for name in three)), "broken")


class Sizes(unittest.TestCase):
    is_told = Told.is_told

    def family(self, formula):
        return family_for(formula, WIDE_A, WIDE_B)

    def sum_claim(self, many, word="le"):
        """Return that the row of columns is at most as wide as many times both signs and what is between."""
        return told(word, (RIGHT, ONE), (WIDE_A, (-many, 1)), (WIDE_B, (-many, 1)), (None, (1 - 5 * many, 1)))

    def test_14_and_15_open_steps(self):
        for many in (13, 14):
            formula = columns(many)
            family = self.family(formula)
            self.assertEqual(len(open_steps(formula, family)), many)
            with Within(self, 20):
                self.is_told(formula, family, told("ge", (RIGHT, ONE), (WIDE_A, (-many, 1))), "holds")
            with Within(self, 20):
                self.is_told(formula, family, told("le", (RIGHT, ONE), (WIDE_A, (-many, 1)), (None, (-1000, 1))), "broken")
            with Within(self, 20):
                self.is_told(formula, family, self.sum_claim(many, "ge"), "broken")
        formula = columns(15)
        family = self.family(formula)
        self.assertEqual(len(open_steps(formula, family)), 15)
        for claim in (SO, NEVER, self.sum_claim(15)):
            self.assertEqual(raised(self, TooGreat, judge, formula, family, claim).most, 14)

    def test_all_have_to_be_split(self):
        for many in (1, 4, 9):
            formula = columns(many)
            with Within(self, 20):
                tree = self.is_told(formula, self.family(formula), self.sum_claim(many), "holds")
            self.assertEqual((tree_leaves(tree), tree_splits(tree)), (2 ** many, 2 ** many - 1))

    def test_nothing_has_to_be_split_where_bounds_tell_enough(self):
        formula = columns(14)
        family = family_for(formula, WIDE_A, WIDE_B, system=(("ge", (-1, 0, 3, 1)), ("ge", (0, -1, 2, 1))))
        tree = self.is_told(formula, family, fits((14 * 7 + 13, 1)), "holds")
        self.assertEqual((tree_leaves(tree), tree_splits(tree)), (1, 0))
        self.is_told(formula, family, fits((14 * 7 + 12, 1)), "broken")

    def test_many_conjunctions(self):
        formula = columns(2)
        family = self.family(formula)
        claim = ("or",) + (told("eq", (RIGHT, ONE), (WIDE_A, (-2, 1)), (None, (-9, 1))), told("eq", (RIGHT, ONE), (WIDE_B, (-2, 1)), (None, (-9, 1)))) * 3
        self.assertEqual(len(broken(claim)), 64)
        with Within(self, 20):
            self.is_told(formula, family, claim, "holds")
        self.assertEqual(raised(self, TooGreat, judge, formula, family, claim + claim[1:2]).most, 64)

    def test_most_words(self):
        formula = ("row",) + (A, B, C) * 19
        family = family_for(formula, WIDE_A, HIGH_A, ("deep", "b", 0), ("space", 0))
        claim = ("and",) + tuple(told("le", (((k,), "right"), ONE), (((k + 1,), "left"), LESS)) for k in range(1, 57))
        with Within(self, 30):
            self.is_told(formula, family, claim, "holds")
        with Within(self, 30):
            self.is_told(formula, family, ("and", told("ge"), *claim[1:], told("gt", (((57,), "left"), ONE), (RIGHT, LESS))), "broken")

    def test_errors_in_their_sequence(self):
        formula = columns(15)
        names, fixed, _ = self.family(formula)
        for claim in (SO, SEVEN):
            self.assertEqual(raised(self, NotFont, judge, formula, (names, fixed[1:], ()), claim).name, fixed[0][0])
            self.assertEqual(raised(self, TooGreat, judge, formula, (names, fixed, ()), claim).most, 14)
        # Families without fonts have more open steps, not less.
        self.assertEqual(raised(self, TooGreat, judge, formula, (names, fixed, (("gt", (0, 0, -1, 1)),)), SO).most, 14)
        for claim in (SEVEN, ("or", SO, SEVEN), ("not", ("not", SEVEN))):
            self.assertEqual(raised(self, TooGreat, judge, ROW, FAMILY, claim).most, 64)


class CheckJudged(unittest.TestCase):
    def fails(self, value, path, claim=LOW_ENOUGH, formula=ROW, family=FAMILY):
        with self.subTest(value):
            self.assertEqual(raised(self, NotPaper, check_judged, formula, family, claim, value).path, path)

    def test_right_ones(self):
        self.assertEqual(check_judged(ROW, FAMILY, LOW_ENOUGH, ("holds", TREE)), "holds")
        self.assertEqual(check_judged(ROW, FAMILY, HIGH_ENOUGH, ("holds", ("case", (BAR,)))), "holds")
        self.assertEqual(check_judged(value=("holds", TREE), claim=LOW_ENOUGH, family=FAMILY, formula=ROW), "holds")
        claim = told("le", (TOP, ONE), (HIGH_A, LESS))
        for point in ((2, 3, 1), (5, 7, 2), (2, 10 ** 50, 1)):
            self.assertEqual(check_judged(ROW, FAMILY, claim, ("broken", point)), "broken")

    def test_pairs(self):
        for value in ANYTHING + (
                (), ("holds",), ("broken",), ("holds", TREE, 1), ("broken", (2, 3, 1), ()), ("Holds", TREE), ("hold", TREE), ("case", TREE), (TREE, "holds"),
                (None, TREE), (True, TREE), ["holds", TREE], TREE, (("holds",), TREE), ("", TREE), deep_tuple(100), "holds", {"holds": TREE}):
            self.fails(value, ())

    def test_points(self):
        claim = told("le", (TOP, ONE), (HIGH_A, LESS))
        for point in ANYTHING + (
                (2, 3), (2, 3, 1, 1), [2, 3, 1], (2, True, 1), (4, 6, 2), (2, 3, 0), (2, 3, -1), (2, "3", 1), ((2, 1), (3, 1)), deep_tuple(99), (), TREE,
                # No fonts of the family; then fonts in which the claim is so.
                (1, 3, 1), (2, 0, 1), (2, -1, 1), (3, 2, 2), (3, 2, 1), (2, 2, 1), (9, 2, 4)):
            self.fails(("broken", point), (1,), claim)
        self.fails(("broken", (2, 3, 1)), (1,))

    def test_trees(self):
        for value, path in (
                (None, ()), ((), ()), (("case", ()), ()), (("case", (None,)), (1, 0)), (("case", (("split", 7, (BAR_A, BAR_A)),)), (1, 0, 2, 1)),
                (("split", 7, (("case", (BAR_A,)), None)), (2, 1)), (("case", (("split", 6, (BAR_A, BAR_B)),)), (1, 0)), (("bar", ()), ()),
                (["case", ()], ()), ((2, 3, 1), ()), (("case", (bar(w20=1),)), (1, 0)), (deep_tuple(99), ())):
            self.fails(("holds", value), (1,) + path)
        for value in ANYTHING:
            self.fails(("holds", value), (1,))
            self.fails(("holds", ("case", (("split", 7, (value, value)),))), (1, 1, 0, 2, 0))

    def test_errors_in_their_sequence(self):
        names, fixed, system = FAMILY
        for value in ANYTHING + (("holds", TREE), ("broken", (2, 3, 1)), deep_tuple(100)):
            for claim in (LOW_ENOUGH, SEVEN):
                self.assertEqual(raised(self, NotFont, check_judged, ROW, (names, fixed[1:], system), claim, value).name, fixed[0][0])
            for claim in (SEVEN, ("or", SO, SEVEN)):
                self.assertEqual(raised(self, TooGreat, check_judged, ROW, FAMILY, claim, value).most, 64)

    def test_more_than_14_open_steps(self):
        formula = columns(15)
        family = family_for(formula, WIDE_A, WIDE_B)
        self.assertEqual(check_judged(formula, family, SO, ("holds", ("case", ()))), "holds")
        self.assertEqual(check_judged(formula, family, NEVER, ("broken", (1, 1, 1))), "broken")
        self.fails(("holds", None), (1,), SO, formula, family)
        self.fails(None, (), SO, formula, family)

    def test_values_stay_as_they_are(self):
        value = ("holds", ["case", [1]])
        self.fails(value, (1,))
        self.assertEqual(value, ("holds", ["case", [1]]))


class ByChance(unittest.TestCase):
    is_told = Told.is_told

    def test_papers_and_fonts(self):
        chance = Random(1)
        told_words, splits = {"holds": 0, "broken": 0}, 0
        for formula, _ in some_formulas(500, 91):
            family = some_family(chance, formula, chance.choice((0, 3, 8)), chance.choice((3, 12)))
            if words_of(formula) > 25 or len(open_steps(formula, family)) > 14:
                continue
            claim = some_claim(chance, formula, 3)
            try:
                with Within(self, 30):
                    word, paper = judge(formula, family, claim)
            except TooGreat:
                continue
            self.is_told(formula, family, claim, word)
            told_words[word] += 1
            if word == "holds":
                splits += tree_splits(paper) > 0
                for _ in range(3):
                    font = tuple(sorted(some_font(chance, family[0]) + family[1]))
                    self.assertTrue(not is_font_of(family, font) or is_so(formula, font, claim))
        self.assertGreater(min(told_words.values()), 80)
        self.assertGreater(splits, 0)

    def test_claims_that_hold_by_their_make(self):
        """A claim or its opposite, and what is greater than both of two members, with STEPS that have to be split."""
        chance = Random(2)
        for many in (2, 3, 5):
            letters = "abcdefgh"
            tables = tuple(("table", ((("sign", chance.choice(letters)),), (("sign", chance.choice(letters)),))) for _ in range(many))
            formula = check_formula(("row",) + tables)
            names = [name for name in needed(formula) if name[0] == "wide"]
            family = family_for(formula, *names)
            for _ in range(6):
                one = told(chance.choice(("le", "ge", "lt", "gt")), (RIGHT, ONE), *((name, (-chance.randint(0, 2), 1)) for name in names), (
                    None, as_fraction(Fraction(chance.randint(-30, 0)))))
                self.is_told(formula, family, ("or", one, ("not", one)), "holds")
                self.is_told(formula, family, ("and", one, ("not", one)), "broken")


if __name__ == "__main__":
    unittest.main()
