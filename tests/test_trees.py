import unittest
from fractions import Fraction
from random import Random

from chance import as_fraction, family_for, some_claim, some_family, some_formulas
from everyfont.claims import broken, check_claim
from everyfont.errors import NotFont, NotPaper, TooGreat
from everyfont.fonts import needed
from everyfont.formulas import check_formula
from everyfont.prover import judge
from everyfont.rows import check_row
from everyfont.spans import open_steps
from everyfont.steps import steps_of
from everyfont.trees import check_tree, leaf_rows, tree_leaves, tree_splits
from leaftold import Rows, is_tree
from wrong import ANYTHING, Within, deep_tuple, raised

A, B, C = ("sign", "a"), ("sign", "b"), ("sign", "c")
ROW = ("row", A, B)
HIGH_A, HIGH_B = ("high", "a", 0), ("high", "b", 0)
ONE, NONE, LESS = (1, 1), (0, 1), (-1, 1)
TOP, BASE = ((), "top"), ((), "base")


# The STEPS of ROW: 0 to 2 of a, 3 to 5 of b, 6 to 8 its own, 7 being the greatest of 1 and 4, 8 that of 2 and 5;
# then left and base: 9, 10 of the whole, 11, 12 of a, 13, 14 of b. high a is at least 2.
FAMILY = family_for(ROW, HIGH_A, HIGH_B, system=(("ge", (1, 0, -2, 1)),))
NAMES = 2
PAIRS = 3


def row(constant=0, high_a=0, high_b=0, **steps):
    """Return the ROW of ROW's leaves with s3=1 for once STEP 3, and so on."""
    integers = [high_a, high_b] + [0] * 15
    for name, share in steps.items():
        integers[NAMES + int(name[1:])] = share
    return tuple(integers) + (constant, 1)


def leaf(**others):
    """Return the ROWS of a leaf without splits and case; a block may be another: s7=(..)."""
    blocks = {
        "s0": (("eq", row(1, s0=-1)),), "s1": (("eq", row(high_a=1, s1=-1)),), "s2": (("eq", row(1, s2=-1)),), "s3": (("eq", row(1, s3=-1)),),
        "s4": (("eq", row(high_b=1, s4=-1)),), "s5": (("eq", row(1, s5=-1)),), "s6": (("eq", row(1, s0=1, s3=1, s6=-1)),),
        "s7": (("ge", row(s7=1, s1=-1)), ("ge", row(s7=1, s4=-1))), "s8": (("eq", row(s2=1, s8=-1)), ("ge", row(s2=1, s5=-1))),
        "s9": (("eq", row(s9=-1)),), "s10": (("eq", row(s10=-1)),), "s11": (("eq", row(s9=1, s11=-1)),), "s12": (("eq", row(s10=1, s12=-1)),),
        "s13": (("eq", row(1, s0=1, s9=1, s13=-1)),), "s14": (("eq", row(s10=1, s14=-1)),)}
    pairs = (("ge", row(-2, high_a=1)), ("gt", row(high_a=1)), ("gt", row(high_b=1)))
    blocks.update(others)
    return pairs + sum((blocks[f"s{k}"] for k in range(15)), ())


def weights(many=21, **shares):
    """Return weights, 0 but for those told: w4=-1 for the row 4."""
    return tuple(as_fraction(Fraction(shares.get(f"w{k}", 0))) for k in range(many))


def bar(**shares):
    return ("bar", weights(**shares))


def told(word, *pairs):
    return ("is", word, pairs)


# The whole's top is at least high a: not so, where high a - base - STEP 7 is greater than 0.
HIGH_ENOUGH = told("ge", (TOP, ONE), (HIGH_A, LESS))
BAR = bar(w4=-1, w10=1, w15=-1, w20=1)
# It is at most both together: the row behind all others is base + STEP 7 - high a - high b.
LOW_ENOUGH = told("le", (TOP, ONE), (HIGH_A, LESS), (HIGH_B, LESS))
BAR_A, BAR_B = bar(w2=1, w4=1, w10=1, w15=1, w20=1), bar(w1=1, w7=1, w10=1, w15=1, w20=1)
SPLIT = ("split", 7, (BAR_A, BAR_B))
TREE = ("case", (SPLIT,))


class LeafRows(unittest.TestCase):
    def is_told(self, family, splits, case, rows):
        found = leaf_rows(ROW, family, splits, case)
        self.assertEqual(found, rows)
        self.assertEqual(leaf_rows(case=case, splits=splits, family=family, formula=ROW), found)

    def test_no_splits_and_no_case(self):
        self.assertEqual(len(leaf()), 20)
        self.is_told(FAMILY, (), None, leaf())

    def test_splits(self):
        self.is_told(FAMILY, ((7, 0),), None, leaf(s7=(("eq", row(s1=1, s7=-1)), ("ge", row(s1=1, s4=-1)))))
        self.is_told(FAMILY, ((7, 1),), None, leaf(s7=(("eq", row(s4=1, s7=-1)), ("ge", row(s4=1, s1=-1)))))
        # A settled STEP may be split, too; then its member is the one that is chosen.
        other = (("eq", row(s5=1, s8=-1)), ("ge", row(s5=1, s2=-1)))
        self.is_told(FAMILY, ((8, 0),), None, leaf())
        self.is_told(FAMILY, ((8, 1),), None, leaf(s8=other))
        both = leaf(s7=(("eq", row(s4=1, s7=-1)), ("ge", row(s4=1, s1=-1))), s8=other)
        self.is_told(FAMILY, ((8, 1), (7, 1)), None, both)
        self.is_told(FAMILY, ((7, 1), (8, 1)), None, both)

    def test_greatest_bounds(self):
        upper = (("ge", (1, 0, -2, 1)), ("ge", (-1, 0, 6, 1)), ("gt", (0, -3, 7, 1)))
        family = family_for(ROW, HIGH_A, HIGH_B, system=upper)
        blocks = leaf()
        pairs = (("ge", row(-2, high_a=1)), ("ge", row(6, high_a=-1)), ("gt", row(7, high_b=-3))) + blocks[1:3]
        bounded = leaf(s7=(("ge", row(s7=1, s1=-1)), ("ge", row(s7=1, s4=-1)), ("ge", row(6, s7=-1))))
        self.is_told(family, (), None, pairs + bounded[3:])
        self.is_told(family, ((7, 0),), None, pairs + leaf(s7=(("eq", row(s1=1, s7=-1)), ("ge", row(s1=1, s4=-1))))[3:])
        # high b is at most 2: settled.
        lower = (("ge", (1, 0, -2, 1)), ("ge", (-1, 0, 6, 1)), ("ge", (0, -1, 2, 1)))
        pairs = (("ge", row(-2, high_a=1)), ("ge", row(6, high_a=-1)), ("ge", row(2, high_b=-1))) + blocks[1:3]
        settled = leaf(s7=(("eq", row(s1=1, s7=-1)), ("ge", row(s1=1, s4=-1))))[3:]
        self.is_told(family_for(ROW, HIGH_A, HIGH_B, system=lower), (), None, pairs + settled)

    def test_a_case(self):
        right, left_b, bottom = ((), "right"), ((2,), "left"), ((1,), "bottom")
        case = (
            ("gt", ((TOP, ONE), (HIGH_A, (-1, 2)), (None, (5, 3)))), ("eq", ((right, (2, 1)), (left_b, LESS), (("space", 0), (3, 1)))),
            ("ge", ((bottom, ONE), (bottom, ONE), (("wide", "a", 0), (1, 2)), (None, ONE), (None, LESS))), ("ge", ()), ("gt", ((BASE, NONE), (None, NONE))),
            ("gt", ((TOP, ONE), (TOP, LESS), (HIGH_B, ONE), (HIGH_B, LESS))), ("eq", ((((2,), "base"), (1, 3)), (HIGH_B, (2, 3)))))
        tail = (
            ("gt", row(high_a=-3, s7=6, s10=6)[:-2] + (10, 6)), ("eq", row(3, s6=2, s9=2, s13=-1)), ("ge", row(s2=-4, s12=4)[:-2] + (1, 2)),
            ("ge", row()), ("gt", row()), ("gt", row()), ("eq", row(high_b=2, s14=1)[:-1] + (3,)))
        self.is_told(FAMILY, (), case, leaf() + tail)
        self.is_told(FAMILY, (), (), leaf())
        self.is_told(FAMILY, ((7, 0),), case[:1], leaf(s7=(("eq", row(s1=1, s7=-1)), ("ge", row(s1=1, s4=-1)))) + tail[:1])

    def test_fixed_numbers_add_up(self):
        formula = ("fence", A)
        family = family_for(formula, ("wide", "a", 0), gap="1/4", rule="1/3")
        # STEP 3: 2 rule + 2 gap + STEP 0 - STEP 3.
        self.assertEqual(leaf_rows(formula, family, (), None)[4], ("eq", (0, 6, 0, 0, -6, 0, 0, 0, 0, 0, 0, 7, 6)))

    def test_one_member(self):
        formula = ("row", A)
        rows = leaf_rows(formula, family_for(formula, HIGH_A), (), None)
        self.assertEqual(rows[5], ("eq", (0, 0, 1, 0, 0, -1, 0, 0, 0, 0, 0, 0, 1)))
        self.assertEqual(leaf_rows(formula, family_for(formula, HIGH_A), ((4, 0),), None), rows)

    def test_against_the_words_of_the_document(self):
        chance = Random(1)
        for formula, _ in some_formulas(100, 81):
            family = some_family(chance, formula, chance.choice((0, 3)))
            steps = steps_of(formula)
            splits = [(number, chance.randrange(len(things))) for number, (word, things) in enumerate(steps) if word == "greatest" and chance.random() < 0.3]
            chance.shuffle(splits)
            try:
                case = chance.choice((None, *broken(some_claim(chance, formula, 3))))
            except TooGreat:
                case = None
            found = leaf_rows(formula, family, tuple(splits), case)
            rows = Rows(formula, family)
            self.assertEqual(found, tuple((word, rows.as_row(own)) for word, own in rows.leaf(splits, case)))
            for word, own in found:
                self.assertIn(word, ("ge", "gt", "eq"))
                self.assertIs(check_row(len(family[0]) + len(steps), own), own)

    def test_names_that_are_lacking(self):
        for name in needed(ROW):
            family = ((), tuple((own, ONE) for own in needed(ROW) if own != name), ())
            self.assertEqual(raised(self, NotFont, leaf_rows, ROW, family, (), None).name, name)

    def test_many_steps(self):
        formula = ("row", *(A,) * 59)
        with Within(self, 10):
            self.assertEqual(len(leaf_rows(formula, family_for(formula, HIGH_A), (), None)), 1 + 300 - 2 + 2 * 59)


class CheckTree(unittest.TestCase):
    def holds(self, claim, tree, family=FAMILY, formula=ROW):
        self.assertIs(check_tree(formula, family, claim, tree), True)
        self.assertTrue(is_tree(Rows(formula, family), broken(claim), tree))

    def fails(self, tree, path, claim=LOW_ENOUGH, family=FAMILY):
        with self.subTest(tree):
            self.assertEqual(raised(self, NotPaper, check_tree, ROW, family, claim, tree).path, path)

    def test_right_ones(self):
        check_claim(ROW, HIGH_ENOUGH)
        check_claim(ROW, LOW_ENOUGH)
        self.holds(HIGH_ENOUGH, ("case", (BAR,)))
        self.holds(LOW_ENOUGH, TREE)
        self.holds(LOW_ENOUGH, ("split", 7, (("case", (BAR_A,)), ("case", (BAR_B,)))))
        # Times a number above 0; and with a further split that tells nothing.
        self.holds(LOW_ENOUGH, ("case", (("split", 7, (("bar", tuple((3 * top, 1) for top, _ in BAR_A[1])), BAR_B)),)))
        self.holds(LOW_ENOUGH, ("case", (("split", 8, (SPLIT, SPLIT)),)))
        self.holds(LOW_ENOUGH, ("split", 8, (TREE, ("split", 7, (("case", (BAR_A,)), ("case", (BAR_B,)))))))
        self.assertIs(check_tree(tree=TREE, claim=LOW_ENOUGH, family=FAMILY, formula=ROW), True)

    def test_no_conjunctions(self):
        self.holds(("and",), ("case", ()))
        self.holds(("and",), ("split", 7, (("case", ()), ("case", ()))))
        self.fails(("case", (BAR,)), (), ("and",))
        self.fails(("case", ()), (), ("or",))
        self.fails(("case", ()), ())
        self.fails(("bar", weights(20)), (), ("and",))

    def test_families_without_fonts(self):
        family = family_for(ROW, HIGH_A, HIGH_B, system=(("ge", (-1, 0, -1, 1)),))
        # -high a - 1 and high a add up to -1.
        self.holds(("or",), ("bar", weights(20, w0=1, w1=1)), family)
        self.holds(LOW_ENOUGH, ("bar", weights(20, w0=1, w1=1)), family)
        self.holds(LOW_ENOUGH, ("case", (("bar", weights(21, w0=2, w1=2)),)), family)
        self.holds(("or",), ("case", (("bar", weights(20, w0=1, w1=1)),)), family)
        self.fails(("bar", weights(21, w0=1, w1=1)), (), LOW_ENOUGH, family)
        self.fails(("bar", weights(20, w0=1, w1="1/2")), (), LOW_ENOUGH, family)

    def test_where_the_sum_is_0(self):
        # high a > 0 alone has a weight: 0 is denied by the row of a "gt"; "ge" would not do.
        claim = told("gt", (HIGH_A, ONE))
        self.holds(claim, ("case", (bar(w1=1, w20=1),)))
        self.fails(("case", (bar(w20=1),)), (1, 0), claim)
        # high a >= 2: the constant is negative.
        self.holds(claim, ("case", (bar(w0=1, w20=1),)))
        claim = told("ge", (HIGH_A, ONE), (None, (-2, 1)))
        self.holds(claim, ("case", (bar(w0=1, w20=1),)))
        self.fails(("case", (bar(w1=1, w20=1),)), (1, 0), claim)
        # high a - 2 >= 0 and 2 - high a >= 0: 0, but no "gt" row has a weight.
        self.fails(("case", (bar(w0=1, w20=1),)), (1, 0), told("gt", (HIGH_A, ONE), (None, (-2, 1))))

    def test_weights(self):
        self.fails(("case", (bar(w4=-1, w10=1, w15=-1),)), (1, 0), HIGH_ENOUGH)
        for name, share in (("w4", 1), ("w10", 2), ("w10", 0), ("w15", 0), ("w20", "1/2"), ("w0", 1), ("w0", -1), ("w11", -1), ("w11", 1)):
            shares = {"w4": -1, "w10": 1, "w15": -1, "w20": 1, name: share}
            self.fails(("case", (bar(**shares),)), (1, 0), HIGH_ENOUGH)
        # -1 times a "ge" or "gt" row would do if it were allowed.
        self.fails(("case", (bar(w0=-1, w1=1, w20=0),)), (1, 0), HIGH_ENOUGH)
        self.fails(("case", (bar(w0=1, w1=-1, w20=0),)), (1, 0), HIGH_ENOUGH)
        for wrong in (
                None, [], list(BAR[1]), BAR[1][:-1], BAR[1] + (NONE,), (), (None,) * 21, (0,) * 21, ((1, 0),) * 21, ((True, 1),) + BAR[1][1:], ((0, 2),) + BAR[1][1:],
                BAR[1][:20] + ((2, 2),), BAR[1][:20] + ([1, 1],), BAR[1][:20] + (1,), "bar", deep_tuple(90)):
            self.fails(("case", (("bar", wrong),)), (1, 0), HIGH_ENOUGH)

    def test_words_and_lengths(self):
        for value in ANYTHING + (
                (), ("bar",), ("bar", BAR[1], 1), ("Bar", BAR[1]), ("split", 7), ("split", 7, SPLIT[2], 1), ("split", SPLIT[2]), ("case",), ("case", (SPLIT,), 1),
                ("cases", (SPLIT,)), ["case", (SPLIT,)], ("case", [SPLIT]), ("case", SPLIT), ("case", None), ("case", ()), ("case", (SPLIT, SPLIT)), (TREE,),
                ("open", (SPLIT,)), (None, (SPLIT,)), (True, (SPLIT,)), ("leaf", 7, SPLIT[2]), deep_tuple(100), ("case", deep_tuple(99), 1)):
            self.fails(value, ())
        for value in ANYTHING + ((), ("bar",), ("split", 7), ("case",), TREE, ("case", (BAR_A,)), SPLIT[2], deep_tuple(90), ("split", 7, SPLIT)):
            self.fails(("case", (value,)), (1, 0))
            self.fails(("split", 8, (("case", (("split", 7, (value, value)),)), None)), (2, 0, 1, 0, 2, 0))
        for value in ANYTHING + ((), ("bar",), ("split", 7), ("case",), BAR_A, SPLIT[2], deep_tuple(90)):
            self.fails(("split", 8, (TREE, value)), (2, 1))

    def test_steps(self):
        for step in (6, -1, 15, 16, -8, True, False, None, "7", (7,), [7], 7.0, 10 ** 3999, 0, 9):
            self.fails(("case", (("split", step, SPLIT[2]),)), (1, 0))
            self.fails(("split", step, (TREE, TREE)), ())
        for trees in (SPLIT[2][:1], SPLIT[2] + (BAR_A,), (), list(SPLIT[2]), None, (BAR_A,), "ab", {}):
            self.fails(("case", (("split", 7, trees),)), (1, 0))
        self.fails(("case", (("split", 7, SPLIT[2][::-1]),)), (1, 0, 2, 0))
        self.fails(("case", (("split", 7, (BAR_A, BAR_A)),)), (1, 0, 2, 1))
        self.fails(("case", (("split", 8, (BAR_A, BAR_B)),)), (1, 0, 2, 0))

    def test_no_step_is_split_twice(self):
        self.fails(("case", (("split", 7, (SPLIT, BAR_B)),)), (1, 0, 2, 0))
        self.fails(("case", (("split", 7, (BAR_A, SPLIT)),)), (1, 0, 2, 1))
        self.fails(("split", 7, (TREE, TREE)), (2, 0, 1, 0))
        self.fails(("split", 8, (("case", (("split", 8, (SPLIT, SPLIT)),)), TREE)), (2, 0, 1, 0))
        # On two ways it may be.
        self.holds(LOW_ENOUGH, ("split", 8, (TREE, TREE)))

    def test_case_stands_once(self):
        self.fails(("case", (TREE,)), (1, 0))
        self.fails(("case", (("split", 7, (("case", (BAR_A,)), BAR_B)),)), (1, 0, 2, 0))
        self.fails(("split", 7, (("case", (BAR_A,)), BAR_B)), (2, 1))
        self.fails(BAR, (), HIGH_ENOUGH)

    def test_the_first_wrong_tree(self):
        claim = ("and", LOW_ENOUGH, HIGH_ENOUGH, LOW_ENOUGH)
        self.holds(claim, ("case", (SPLIT, BAR, SPLIT)))
        self.fails(("case", (SPLIT, None, None)), (1, 1), claim)
        self.fails(("case", (("split", 7, (BAR_A, None)), None, SPLIT)), (1, 0, 2, 1), claim)
        self.fails(("case", (SPLIT, BAR, ("split", 7, (None, None)))), (1, 2, 2, 0), claim)
        self.fails(("case", (SPLIT, SPLIT, SPLIT)), (1, 1, 2, 0), claim)
        # A TREE ahead of what is in it.
        self.fails(("case", (None, BAR)), (), claim)
        self.fails(("split", 6, (None, None)), (), claim)
        self.fails(("case", (("split", 7, (None, None, None)), None, None)), (1, 0), claim)

    def test_errors_in_their_sequence(self):
        font = FAMILY[1][:1] + FAMILY[1][2:]
        seven = ("or",) + (told("eq"),) * 7
        for tree in ANYTHING + (TREE, deep_tuple(100)):
            for claim in (LOW_ENOUGH, seven):
                self.assertEqual(raised(self, NotFont, check_tree, ROW, (FAMILY[0], font, FAMILY[2]), claim, tree).name, FAMILY[1][1][0])
            self.assertEqual(raised(self, TooGreat, check_tree, ROW, FAMILY, seven, tree).most, 64)
            self.assertEqual(raised(self, TooGreat, check_tree, ROW, FAMILY, ("or", ("and",), seven), tree).most, 64)

    def test_trees_stay_as_they_are(self):
        tree = ("case", [["bar", [[1, 1]]]])
        self.fails(tree, ())
        self.assertEqual(tree, ("case", [["bar", [[1, 1]]]]))

    def test_weights_spoiled_by_chance(self):
        chance = Random(2)
        spoiled = 0
        for formula, _ in some_formulas(150, 82):
            family = some_family(chance, formula, chance.choice((0, 3)), 4)
            claim = some_claim(chance, formula, 3)
            try:
                word, tree = judge(formula, family, claim)
            except TooGreat:
                continue
            if word == "holds":
                rows, ways = Rows(formula, family), broken(claim)
                self.assertTrue(is_tree(rows, ways, tree))
                self.assertIs(check_tree(formula, family, claim, tree), True)
                for _ in range(4):
                    other = self.spoil(chance, tree)
                    found = is_tree(rows, ways, other)
                    if found:
                        self.assertIs(check_tree(formula, family, claim, other), True)
                    else:
                        raised(self, NotPaper, check_tree, formula, family, claim, other)
                        spoiled += 1
        self.assertGreater(spoiled, 50)

    def spoil(self, chance, tree):
        """Return a TREE with one weight, or the sequence of some TREES, changed."""
        if tree[0] == "bar":
            place = chance.randrange(len(tree[1])) if chance.random() < 0.5 else max(k for k, own in enumerate(tree[1]) if own[0])
            share = chance.choice(((-1, 1), (0, 1), (1, 2), (2, 1)))
            return ("bar", tree[1][:place] + (share,) + tree[1][place + 1:])
        if not tree[-1] or chance.random() < 0.1:
            return tree[:-1] + (tree[-1][::-1],)
        place = chance.randrange(len(tree[-1]))
        return tree[:-1] + (tree[-1][:place] + (self.spoil(chance, tree[-1][place]),) + tree[-1][place + 1:],)


class Counts(unittest.TestCase):
    def test_by_hand(self):
        leaf_of_nothing = ("bar", None)
        for tree, leaves, splits in (
                (BAR, 1, 0), (SPLIT, 2, 1), (TREE, 2, 1), (("case", ()), 0, 0), (("case", (SPLIT, BAR, TREE)), 5, 2), (leaf_of_nothing, 1, 0),
                (("split", "any", ()), 0, 1), (("split", None, (leaf_of_nothing,) * 3), 3, 1), (("split", 7, (("split", 7, (BAR, BAR)), BAR)), 3, 2),
                (("bar", ("bar", "split")), 1, 0), (("bar", ()), 1, 0), (("split", ("bar",), (("case", (("case", (BAR,)),)), ("split", True, ()))), 1, 2),
                (("bar", (("split", 1, ()),)), 1, 0), (("split", ("split", 1, (BAR,)), (BAR,)), 1, 1)):
            with self.subTest(tree):
                self.assertEqual(tree_leaves(tree), leaves)
                self.assertEqual(tree_splits(tree), splits)
        self.assertEqual((tree_leaves(tree=TREE), tree_splits(tree=TREE)), (2, 1))

    def test_great_trees(self):
        tree = BAR
        for _ in range(12):
            tree = ("split", 7, (tree, tree))
        self.assertEqual(tree_leaves(tree), 4096)
        self.assertEqual(tree_splits(tree), 4095)
        tree = BAR
        for _ in range(45):
            tree = ("split", 7, (BAR, tree))
        self.assertEqual((tree_leaves(tree), tree_splits(tree)), (46, 45))


class Steps(unittest.TestCase):
    def test_the_formula_of_these_tests(self):
        check_formula(ROW)
        self.assertEqual([steps_of(ROW)[number] for number in (7, 8)], [("greatest", (1, 4)), ("greatest", (2, 5))])
        self.assertEqual(open_steps(ROW, FAMILY), (7,))


if __name__ == "__main__":
    unittest.main()
