import unittest
from random import Random

from chance import family_for, lowest_row, some_family, some_formula, some_formulas
from everyfont.best import greatest
from everyfont.boxes import box_of
from everyfont.errors import Empty, NotFont, NotName, TooGreat
from everyfont.expressions import box_tops
from everyfont.families import family_font, family_pairs
from everyfont.formulas import words_of
from everyfont.leads import greatest_lead, leading_font
from everyfont.numbers import compared
from everyfont.systems import holds_all
from wrong import ANYTHING, Within, deep_tuple, raised

A, B, C = ("sign", "a"), ("sign", "b"), ("sign", "c")
ROW, HALF = ("row", A, B), ("over", A, B)
WIDE_A, WIDE_B = ("wide", "a", 0), ("wide", "b", 0)
X, Y = ("wide", "a", 1), ("wide", "b", 1)
WORDS = ("wide", "high", "deep")


def lead_by_rows(family, formula, other, word):
    """Return the lead by a linear problem for each SIZE ROW of the first one, with one more unknown for the other."""
    number, count, pairs = WORDS.index(word), len(family[0]), family_pairs(family)
    system = [(own, row[:-2] + (0,) + row[-2:]) for own, row in pairs]
    system += [("ge", tuple(-top for top in row[:-2]) + (row[-1], -row[-2], row[-1])) for row in box_tops(family, other)[number]]
    if len(system) > 60:
        return None
    told = [
        greatest(count + 1, tuple(system), row[:-2] + (-row[-1],) + row[-2:]) for row in box_tops(family, formula)[number]]
    if ("endless",) in told:
        return ("endless",)
    best = told[0]
    for own in told:
        sign = compared(own[1], best[1])
        if sign > 0 or (sign == 0 and own[2]):
            best = own
    return best


class ByHand(unittest.TestCase):
    def is_told(self, family, formula, other, word, told):
        self.assertEqual(greatest_lead(family, formula, other, word), told)
        self.assertEqual(greatest_lead(word=word, other=other, formula=formula, family=family), told)
        if told == ("endless",) or told[1][0] > 0:
            point = leading_font(family, formula, other, word)
            self.assertEqual(leading_font(word=word, other=other, formula=formula, family=family), point)
            self.assertTrue(holds_all(len(family[0]), family_pairs(family), point))
            font = family_font(family, point)
            number = WORDS.index(word)
            self.assertGreater(compared(box_of(formula, font)[number], box_of(other, font)[number]), 0)
        else:
            raised(self, Empty, leading_font, family, formula, other, word)

    def test_one_row_each(self):
        # a + 1 + b wide, and a wide: the lead is b + 1.
        family = family_for(ROW, WIDE_A, WIDE_B, system=(("ge", (0, -1, 4, 1)),))
        self.is_told(family, ROW, A, "wide", ("most", (5, 1), True))
        self.is_told(family, A, ROW, "wide", ("most", (-1, 1), False))
        self.is_told(family, ROW, B, "wide", ("endless",))
        self.is_told(family, ROW, ROW, "wide", ("most", (0, 1), True))
        self.is_told(family, B, A, "wide", ("most", (4, 1), False))
        self.is_told(family, A, B, "wide", ("endless",))
        self.is_told(family, ROW, A, "high", ("most", (0, 1), True))
        self.is_told(family, ROW, A, "deep", ("most", (0, 1), True))
        near = family_for(ROW, WIDE_A, WIDE_B, system=(("gt", (0, -1, 4, 1)),))
        self.is_told(near, ROW, A, "wide", ("most", (5, 1), False))

    def test_several_rows(self):
        # max(x, y) + 2, at most 3 and 5, against x + 2 and y + 2.
        alone_a, alone_b = ("over", A, A), ("over", B, B)
        family = family_for(HALF, X, Y, system=(("ge", (-1, 0, 3, 1)), ("ge", (0, -1, 5, 1)), ("ge", (1, 0, -1, 1))))
        self.is_told(family, HALF, alone_a, "wide", ("most", (4, 1), True))
        self.is_told(family, alone_a, HALF, "wide", ("most", (0, 1), True))
        self.is_told(family, HALF, alone_b, "wide", ("most", (3, 1), False))
        # x + 1 + y + 2 against it: the lesser one and 1 are left.
        both = ("over", ("row", A, B), B)
        family = family_for(both, X, Y, system=family[2])
        self.is_told(family, both, HALF, "wide", ("most", (4, 1), True))
        # x above y + 1 always: the lead of x over the greater one is 0, that of y over it below -1.
        family = family_for(HALF, X, Y, system=(("gt", (1, -1, -1, 1)), ("ge", (-1, 0, 9, 1))))
        self.is_told(family, HALF, alone_a, "wide", ("most", (0, 1), True))
        self.is_told(family, alone_b, HALF, "wide", ("most", (-1, 1), False))
        self.is_told(family, alone_b, alone_a, "wide", ("most", (-1, 1), False))
        self.is_told(family, alone_a, alone_b, "wide", ("most", (9, 1), False))

    def test_rows_that_come_to_the_same(self):
        # One ROW only comes near to 3 + 2, the other one meets it.
        family = family_for(("row", HALF, C), X, Y)
        for one, other in (("gt", "ge"), ("ge", "gt"), ("ge", "ge")):
            family = (family[0], family[1], ((one, (-1, 0, 3, 1)), (other, (0, -1, 3, 1))))
            self.is_told(family, HALF, C, "wide", ("most", (4, 1), True))
        family = (family[0], family[1], (("gt", (-1, 0, 3, 1)), ("gt", (0, -1, 3, 1))))
        self.is_told(family, HALF, C, "wide", ("most", (4, 1), False))
        for one, other in ((2, 3), (3, 2)):
            # The one that is less is met.
            family = (family[0], family[1], (("gt" if one == 3 else "ge", (-1, 0, one, 1)), ("gt" if other == 3 else "ge", (0, -1, other, 1))))
            self.is_told(family, HALF, C, "wide", ("most", (4, 1), False))

    def test_leads_below_zero(self):
        family = family_for(ROW, WIDE_A, WIDE_B, system=(("ge", (0, 1, -2, 1)),))
        self.is_told(family, A, ROW, "wide", ("most", (-3, 1), True))

    def test_families_without_unknowns(self):
        family = family_for(ROW, wide=3)
        self.is_told(family, ROW, A, "wide", ("most", (4, 1), True))
        self.assertEqual(leading_font(family, ROW, A, "wide"), (1,))
        self.is_told(family, A, ROW, "wide", ("most", (-4, 1), True))

    def test_fonts_that_are_not_inner(self):
        # The first one is greater only where x is 3, at the rim.
        family = family_for(HALF, X, Y, system=(("ge", (-1, 0, 3, 1)), ("ge", (0, 1, -1, 1)), ("ge", (1, -1, 1, 1))))
        self.is_told(family, ("over", A, A), ("over", B, B), "wide", ("most", (2, 1), True))


class Wrong(unittest.TestCase):
    functions = (greatest_lead, leading_font)

    def test_names_and_words(self):
        nowhere = family_for(A, WIDE_A, system=(("gt", (-1, 0, 1)),))
        for function in self.functions:
            for family in (family_for(A), nowhere):
                self.assertEqual(raised(self, NotFont, function, family, B, C, None).name, ("deep", "b", 0))
                for value in ANYTHING + ("most", ["wide"], ("wide",), deep_tuple(100)):
                    self.assertIs(raised(self, NotName, function, family, A, C, value).name, value)
            # Empty() counts ahead of what lacks for the other one.
            raised(self, Empty, function, nowhere, A, C, "wide")
            self.assertEqual(raised(self, NotFont, function, family_for(A), A, C, "wide").name, ("deep", "c", 0))
            for system in ((("eq", (1, -1, 1)),), (("ge", (0, 0, 1)),)):
                raised(self, Empty, function, family_for(A, WIDE_A, system=system), A, A, "deep")

    def test_too_many_rows(self):
        many = ("row", *(("table", ((("sign", letter),), (C,))) for letter in "defghiklm"))
        family = family_for(many, *[("wide", letter, 0) for letter in "defghiklm"])
        for function in self.functions:
            self.assertEqual(raised(self, TooGreat, function, family, many, C, "wide").most, 400)
            self.assertEqual(raised(self, TooGreat, function, family, C, many, "deep").most, 400)
            # That of the first one counts ahead of what lacks for the other one.
            self.assertEqual(raised(self, TooGreat, function, family, many, A, "wide").most, 400)
            self.assertEqual(raised(self, NotFont, function, family, A, many, "wide").name, ("deep", "a", 0))
            self.assertEqual(raised(self, NotName, function, family, many, A, "").name, "")


class ByChance(unittest.TestCase):
    def test_against_the_rows_one_by_one(self):
        told = {}
        chance = Random(4)
        for formula, _ in some_formulas(220, 91):
            other = some_formula(chance, chance.randint(1, 4))
            whole = ("row", formula, other)
            if words_of(whole) > 60:
                continue
            family = some_family(chance, whole, chance.randint(0, 8), chance.randint(0, 6))
            word = chance.choice(WORDS)
            try:
                found = greatest_lead(family, formula, other, word)
                wanted = lead_by_rows(family, formula, other, word)
            except TooGreat:
                continue
            if wanted is not None:
                self.assertEqual(found, wanted)
                told[found[::2]] = told.get(found[::2], 0) + 1
            number = WORDS.index(word)
            try:
                point = leading_font(family, formula, other, word)
            except Empty:
                self.assertEqual(found[0], "most")
                self.assertLessEqual(found[1][0], 0)
            else:
                self.assertTrue(holds_all(len(family[0]), family_pairs(family), point))
                font = family_font(family, point)
                self.assertGreater(compared(box_of(formula, font)[number], box_of(other, font)[number]), 0)
        self.assertGreater(min(told.values()), 10)
        self.assertEqual(len(told), 3)

    def test_many_rows_and_unknowns(self):
        chance = Random(6)
        letters = "abcdefghijkl"
        pairs = [(one, other) for number, one in enumerate(letters) for other in letters[number + 1:]]
        formula, other = [
            ("row", *(("over", ("sign", one), ("sign", two)) for one, two in chance.sample(pairs, 8))) for _ in range(2)]
        names = [("wide", letter, 1) for letter in letters]
        whole = ("row", formula, ("over", other, ("row", *(("sign", letter) for letter in letters))))
        system = []
        for number in range(12):
            unit = tuple(-int(own == number) for own in range(12))
            system.append((chance.choice(("ge", "gt")), unit + (chance.randint(10 ** 11, 10 ** 12), 1)))
        for _ in range(28):
            system.append(("ge", lowest_row([chance.randint(-10 ** 8, 10 ** 8) for _ in names] + [chance.randint(0, 10 ** 19), 1])))
        family = family_for(("row", whole, formula, other), *names, system=tuple(system))
        self.assertGreater(len(box_tops(family, formula)[0]), 100)
        with Within(self, 30):
            found = greatest_lead(family, formula, other, "wide")
        with Within(self, 30):
            leading_font(family, formula, other, "wide")
        self.assertGreater(found[1][0], 0)


if __name__ == "__main__":
    unittest.main()
