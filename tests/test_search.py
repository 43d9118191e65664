import unittest
from random import Random

from chance import family_for, lowest_row, some_claim, some_family, some_formulas
from everyfont.claims import broken, is_so
from everyfont.errors import TooGreat
from everyfont.families import family_font, is_font_of
from everyfont.fonts import needed
from everyfont.formulas import check_formula
from everyfont.prover import check_judged, judge
from everyfont.search import Search
from everyfont.spans import Spans
from everyfont.trees import check_tree, tree_splits
from test_trees import told

RIGHT = ((), "right")


def column(*letters):
    return ("table", tuple((("sign", letter),) for letter in letters))


def some_columns(chance, many, letters="abcdef"):
    """Return a row of columns of two or three signs."""
    return check_formula(("row",) + tuple(column(*chance.sample(letters, chance.choice((2, 2, 3)))) for _ in range(many)))


def some_width_claim(chance, formula, names):
    """Return a claim on how wide the row is, near to what may be so."""
    shares = tuple((name, (-chance.randint(0, 2), 1)) for name in names)
    many = len(formula) - 1
    return told(chance.choice(("le", "lt")), (RIGHT, (1, 1)), *shares, (None, (1 - 5 * many - chance.randint(0, 8), 1)))


class AfterSplits(unittest.TestCase):
    """STEPS that are split at first, whether they have to be or not: TREES and fonts are right behind any splits."""

    def tree_behind(self, search, node, steps, asked, case):
        """Return what tree_from does of a Node behind splits of some STEPS."""
        node.table.solve()
        if not steps:
            return search.tree_from(node, asked, case)
        trees = []
        for member in range(len(search.spans.steps[steps[0]][1])):
            tree, point = self.tree_behind(search, search.split_off(node, steps[0], member), steps[1:], asked, case)
            if point is not None:
                return None, point
            trees.append(tree)
        return ("split", steps[0], tuple(trees)), None

    def look(self, chance, formula, family, claim):
        """Look at what is found behind some splits; return how many STEPS were split at first."""
        search = Search(Spans(formula, family))
        steps = chance.sample(search.opens, min(len(search.opens), 3))
        trees = []
        word = judge(formula, family, claim)[0]
        for case in broken(claim):
            node = search.root()
            if node.table.solve() is not None:
                return 0
            asked = [(own, search.row_of_sum(pairs)) for own, pairs in case]
            for number, (own, row) in enumerate(asked):
                node.take(own, row, ("case", number, None))
            tree, point = self.tree_behind(search, node, steps, asked, search.leaves.rows_of_case(case))
            if point is not None:
                self.assertEqual(word, "broken")
                font = family_font(family, point)
                self.assertTrue(is_font_of(family, font))
                self.assertFalse(is_so(formula, font, claim))
                return len(steps)
            trees.append(tree)
        self.assertEqual(word, "holds")
        self.assertIs(check_tree(formula, family, claim, ("case", tuple(trees))), True)
        return len(steps)

    def test_formulas_by_chance(self):
        chance = Random(1)
        split = 0
        for formula, _ in some_formulas(250, 101):
            family = some_family(chance, formula, chance.choice((0, 3, 12)))
            try:
                split += self.look(chance, formula, family, some_claim(chance, formula, 3)) > 0
            except TooGreat:
                continue
        self.assertGreater(split, 60)

    def test_columns_with_and_without_bounds(self):
        chance = Random(2)
        split = 0
        for _ in range(120):
            formula = some_columns(chance, chance.randint(2, 4))
            names = [name for name in needed(formula) if name[0] == "wide"]
            system = [("ge", lowest_row([chance.randint(-2, 2) for _ in names] + [chance.randint(1, 9), 1])) for _ in range(chance.randint(0, 3))]
            if chance.random() < 0.6:
                for number in range(len(names)):
                    unit = [-1 if number == other else 0 for other in range(len(names))]
                    system.append(("ge", lowest_row(unit + [chance.randint(2, 6), 1])))
            claim = some_width_claim(chance, formula, names)
            split += self.look(chance, formula, family_for(formula, *names, system=tuple(system)), claim) > 0
        self.assertGreater(split, 60)


class Judged(unittest.TestCase):
    def test_a_font_that_is_found_behind_splits(self):
        formula = ("row", column("e", "a"), column("a", "e"), column("d", "b"))
        names = tuple(("wide", letter, 0) for letter in "abde")
        family = family_for(formula, *names, system=(("ge", (-1, 1, 1, -2, 1, 1)), ("ge", (2, 2, 0, 0, 5, 1))))
        shares = tuple((name, (-share, 1)) for name, share in zip(names, (2, 1, 2, 1)))
        claim = told("le", (RIGHT, (1, 1)), *shares, (None, (-15, 1)))
        word, point = judge(formula, family, claim)
        self.assertEqual(word, "broken")
        self.assertEqual(check_judged(formula, family, claim, (word, point)), "broken")

    def test_claims_on_widths(self):
        chance = Random(3)
        words, splits = {"holds": 0, "broken": 0}, 0
        for _ in range(150):
            formula = some_columns(chance, chance.randint(2, 5))
            names = [name for name in needed(formula) if name[0] == "wide"]
            system = tuple(
                ("ge", lowest_row([chance.randint(-2, 2) for _ in names] + [chance.randint(1, 9), 1])) for _ in range(chance.randint(0, 4)))
            family = family_for(formula, *names, system=system)
            claim = some_width_claim(chance, formula, names)
            word, paper = judge(formula, family, claim)
            self.assertEqual(check_judged(formula, family, claim, (word, paper)), word)
            words[word] += 1
            splits += word == "holds" and tree_splits(paper) > 0
        self.assertGreater(min(words.values()), 10)
        self.assertGreater(splits, 10)


if __name__ == "__main__":
    unittest.main()
