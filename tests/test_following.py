import unittest
from random import Random

from chance import family_for, lowest_row, some_claim, some_font, some_formula
from everyfont.claims import apart, check_claim, fits, is_so
from everyfont.errors import NotFormula
from everyfont.families import check_family, family_font, is_font_of
from everyfont.fonts import needed
from everyfont.following import is_within, led_claim, led_path
from everyfont.formulas import part_at, paths_of, words_of
from everyfont.plains import plain
from wrong import ANYTHING, Within, deep_tuple, raised

A, B, C, D = ("sign", "a"), ("sign", "b"), ("sign", "c"), ("sign", "d")
AB = ("row", A, B)
WIDE_A, WIDE_B = ("wide", "a", 0), ("wide", "b", 0)


def some_rows(chance, depth):
    """Return a FORMULA with many rows in rows."""
    if depth == 1 or chance.random() < 0.2:
        return some_formula(chance, 1)
    if chance.random() < 0.7:
        return ("row", *(some_rows(chance, depth - 1) for _ in range(chance.randint(1, 3))))
    word = chance.choice(("bar", "over", "table"))
    parts = [some_rows(chance, depth - 1) for _ in range(1 + (word != "bar"))]
    return ("table", (tuple(parts),)) if word == "table" else (word, *parts)


class LedPath(unittest.TestCase):
    def is_told(self, formula, places):
        """Hold where all PATHS lead, in their order, against what was worked out by hand."""
        paths = paths_of(formula)
        self.assertEqual([led_path(formula, path) for path in paths], places)
        self.assertEqual([led_path(path=path, formula=formula) for path in paths], places)
        whole = plain(formula)
        for path, place in zip(paths, places):
            if place is not None:
                self.assertEqual(part_at(whole, place), plain(part_at(formula, path)))

    def test_plain_ones(self):
        for formula in (A, AB, ("over", AB, ("root", A)), ("limits", "a", B, ("both", A, AB, C)), ("table", ((A, AB), (("bar", AB), B)))):
            self.is_told(formula, list(paths_of(formula)))

    def test_rows_of_one_part(self):
        self.is_told(("row", A), [(), ()])
        self.is_told(("row", ("row", ("row", A))), [(), (), (), ()])
        self.is_told(("row", ("bar", ("row", A))), [(), (), (1,), (1,)])
        self.is_told(("row", AB), [(), (), (1,), (2,)])
        self.is_told(("row", ("row", AB)), [(), (), (), (1,), (2,)])
        self.is_told(("over", ("row", AB), ("row", A)), [(), (1,), (1,), (1, 1), (1, 2), (2,), (2,)])
        self.is_told(("table", ((("row", A), B),)), [(), (1, 0, 0), (1, 0, 0), (1, 0, 1)])

    def test_parts_of_a_row_of_several(self):
        self.is_told(("row", A, AB), [(), (1,), None, (2,), (3,)])
        self.is_told(("row", AB, C), [(), None, (1,), (2,), (3,)])
        self.is_told(("row", AB, ("row", C, D)), [(), None, (1,), (2,), None, (3,), (4,)])
        # Rows of one around a row of several have no place, those around others have that of these.
        self.is_told(("row", A, ("row", AB)), [(), (1,), None, None, (2,), (3,)])
        self.is_told(("row", ("row", A), B), [(), (1,), (1,), (2,)])
        self.is_told(("row", A, ("row", ("row", ("row", B)))), [(), (1,), (2,), (2,), (2,), (2,)])
        self.is_told(("row", A, ("row", ("row", B), C)), [(), (1,), None, (2,), (2,), (3,)])
        self.is_told(("row", A, ("row", B, ("row", C, D))), [(), (1,), None, (2,), None, (3,), (4,)])
        self.is_told(("row", A, ("row", ("row", B, ("row", ("row", C), A)), D)), [(), (1,), None, None, (2,), None, (3,), (3,), (4,), (5,)])
        # The whole has its place, also as a row of one.
        self.is_told(("row", ("row", A, AB)), [(), (), (1,), None, (2,), (3,)])

    def test_parts_further_down(self):
        self.is_told(("row", A, ("row", B, ("root", AB))), [(), (1,), None, (2,), (3,), (3, 1), (3, 1, 1), (3, 1, 2)])
        self.is_told(("row", AB, ("bar", ("row", A, AB))), [(), None, (1,), (2,), (3,), (3, 1), (3, 1, 1), None, (3, 1, 2), (3, 1, 3)])
        self.is_told(("row", A, ("row", ("fence", ("row", B)))), [(), (1,), (2,), (2,), (2, 1), (2, 1)])
        self.is_told(("under", "a", ("row", ("row", A), AB)), [(), (2,), (2, 1), (2, 1), None, (2, 2), (2, 3)])
        self.is_told(("row", A, ("row", ("table", ((B, ("row", C)),)), D)), [(), (1,), None, (2,), (2, 1, 0, 0), (2, 1, 0, 1), (2, 1, 0, 1), (3,)])

    def test_what_is_no_path(self):
        formula = ("row", A, ("row", B, ("table", ((A,),))))
        for path in ANYTHING + (
                (3,), (0,), (-1,), (True,), (1, 1), (2, 0), (2, 2, 1), (2, 2, 0, 0), (2, 2, 1, 0), (2, 2, 1, 0, 1), [2], [], (2, None), (2.0,), "2", ((2,),),
                (2, True), (10 ** 3999,), deep_tuple(100)):
            if path != ():
                self.assertIs(raised(self, NotFormula, led_path, formula, path).path, path)
        path = [2]
        raised(self, NotFormula, led_path, formula, path)
        self.assertEqual(path, [2])


class LedClaim(unittest.TestCase):
    formula = ("row", A, ("row", ("row", B), C))

    def test_sums(self):
        pairs = ((((2, 1), "left"), (1, 2)), (WIDE_A, (3, 1)), (((2, 1, 1), "top"), (0, 1)), (None, (-1, 1)), (((2, 2), "base"), (1, 1)), (((2, 1), "left"), (1, 2)))
        led = ((((2,), "left"), (1, 2)), (WIDE_A, (3, 1)), (((2,), "top"), (0, 1)), (None, (-1, 1)), (((3,), "base"), (1, 1)), (((2,), "left"), (1, 2)))
        self.assertEqual(led_claim(self.formula, ("is", "ne", pairs)), ("is", "ne", led))
        self.assertEqual(led_claim(claim=("is", "ne", pairs), formula=self.formula), ("is", "ne", led))
        for claim in (("is", "eq", ()), ("and",), ("or",), ("not", ("and",)), ("is", "gt", ((None, (1, 1)), (("space", 0), (1, 1)))), fits((3, 1))):
            self.assertEqual(led_claim(self.formula, claim), claim)

    def test_claims_in_claims(self):
        claim = ("and", ("not", apart((1,), (2, 2))), ("or", fits((1, 1)), ("and",)))
        led = ("and", ("not", apart((1,), (3,))), ("or", fits((1, 1)), ("and",)))
        self.assertEqual(led_claim(self.formula, claim), led)

    def test_paths_without_place(self):
        wrong = ("is", "eq", ((((2,), "left"), (0, 1)),))
        good = fits((1, 1))
        for claim in (
                wrong, ("not", wrong), ("and", good, wrong), ("or", wrong, good), ("or", good, ("not", ("and", wrong))), apart((1,), (2,)), apart((2,), (1,)),
                ("is", "eq", (((((), "left")), (1, 1)), (((2,), "left"), (1, 1))))):
            self.assertIs(check_claim(self.formula, claim), claim)
            self.assertIsNone(led_claim(self.formula, claim))

    def test_by_chance(self):
        chance = Random(1)
        told = {True: 0, False: 0}
        for _ in range(600):
            formula = some_rows(chance, chance.randint(1, 6))
            if words_of(formula) > 60:
                continue
            whole = plain(formula)
            places = [led_path(formula, path) for path in paths_of(formula)]
            # Each place of the plain form is that of a part.
            self.assertEqual({place for place in places if place is not None}, set(paths_of(whole)))
            for path, place in zip(paths_of(formula), places):
                part = plain(part_at(formula, path))
                if place is None:
                    self.assertEqual(part[0], "row")
                else:
                    self.assertEqual(part, part_at(whole, place))
            claim = some_claim(chance, formula, 3)
            led = led_claim(formula, claim)
            told[led is None] += 1
            if led is not None:
                self.assertIs(check_claim(whole, led), led)
                font = some_font(chance, needed(formula))
                self.assertEqual(is_so(formula, font, claim), is_so(whole, font, led))
        self.assertGreater(min(told.values()), 20)


def family_with(unknown, system, **numbers):
    return family_for(AB, *unknown, system=system, **numbers)


class IsWithin(unittest.TestCase):
    def is_told(self, family, other, told):
        with self.subTest(family, other=other):
            self.assertIs(is_within(family, other), told)
            self.assertIs(is_within(other=other, family=family), told)

    def test_pairs(self):
        def least(word, low):
            return family_with((WIDE_A,), ((word, (1, -low, 1)),))

        free = family_with((WIDE_A,), ())
        self.is_told(free, free, True)
        self.is_told(least("ge", 1), free, True)
        self.is_told(free, least("ge", 1), False)
        self.is_told(free, least("gt", 0), True)
        self.is_told(free, least("ge", 0), True)
        for one, two, told in (
                (("ge", 2), ("ge", 1), True), (("ge", 1), ("ge", 2), False), (("gt", 1), ("ge", 1), True), (("ge", 1), ("gt", 1), False), (("gt", 1), ("gt", 1), True),
                (("eq", 1), ("ge", 1), True), (("eq", 1), ("gt", 1), False), (("ge", 1), ("eq", 1), False), (("eq", 1), ("eq", 1), True), (("eq", 2), ("eq", 1), False)):
            self.is_told(least(*one), least(*two), told)
        between = family_with((WIDE_A,), (("ge", (1, -1, 1)), ("ge", (-1, 1, 1))))
        self.is_told(between, least("eq", 1), True)
        self.is_told(least("eq", 1), between, True)

    def test_several_unknowns(self):
        # x above y, y above 1: x is above 1.
        family = family_with((WIDE_A, WIDE_B), (("gt", (1, -1, 0, 1)), ("ge", (0, 1, -1, 1))))
        self.is_told(family, family_with((WIDE_A, WIDE_B), (("gt", (1, 0, -1, 1)),)), True)
        self.is_told(family, family_with((WIDE_A, WIDE_B), (("gt", (1, 1, -2, 1)),)), True)
        self.is_told(family, family_with((WIDE_A, WIDE_B), (("ge", (1, 1, -3, 1)),)), False)
        self.is_told(family, family_with((WIDE_A, WIDE_B), (("gt", (1, 1, -2, 1)), ("ge", (1, 0, -2, 1)))), False)

    def test_names(self):
        # Other NAMES: no font of one is one of the other.
        self.is_told(family_for(A), family_for(B), False)
        self.is_told(family_for(A), family_for(AB), False)
        self.is_told(family_for(AB), family_for(A), False)
        self.is_told(((), (), ()), ((), (), ()), True)
        self.is_told(((), (), ()), family_for(A), False)

    def test_fixed_numbers(self):
        fixed, free = family_with((), ()), family_with((WIDE_A,), ())
        self.is_told(fixed, fixed, True)
        self.is_told(fixed, family_with((), (), wide=2), False)
        # What is fixed in one may be unknown in the other one.
        self.is_told(fixed, free, True)
        self.is_told(free, fixed, False)
        self.is_told(fixed, family_with((WIDE_A,), (("ge", (1, -1, 1)),)), True)
        self.is_told(fixed, family_with((WIDE_A,), (("gt", (1, -1, 1)),)), False)
        self.is_told(family_with((WIDE_A,), (("eq", (1, -1, 1)),)), fixed, True)
        self.is_told(family_with((WIDE_A,), (("eq", (1, -2, 1)),)), fixed, False)
        self.is_told(family_with((WIDE_A,), (("ge", (2, -2, 1)), ("ge", (-1, 1, 1)))), fixed, True)
        # a unknown in one, b in the other one: x = 1 and y from 0 to 3.
        one, two = family_with((WIDE_A,), (("eq", (1, -1, 1)),)), family_with((WIDE_B,), (("ge", (-1, 3, 1)),))
        self.is_told(one, two, True)
        self.is_told(two, one, False)
        self.is_told(family_with((WIDE_A,), ()), two, False)

    def test_families_without_fonts(self):
        nowhere = family_with((WIDE_A,), (("gt", (-1, 0, 1)),))
        for other in (nowhere, family_with((), ()), family_for(B), ((), (), ()), family_with((WIDE_A, WIDE_B), ())):
            self.is_told(nowhere, other, True)
        self.is_told(family_with((WIDE_A,), ()), nowhere, False)
        self.is_told(((), (), (("gt", (0, 1)),)), family_for(A), True)
        self.is_told(((), (), ()), ((), (), (("ge", (-1, 1)),)), False)
        self.is_told(((), (), ()), ((), (), (("ge", (0, 1)), ("eq", (0, 1)), ("gt", (1, 3)))), True)

    def test_many_pairs(self):
        chance = Random(2)
        names = [(word, letters, 0) for word in ("wide", "high") for letters in ("a", "b")] + [("space", 0), ("deep", "a", 0), ("deep", "b", 0)]
        system = tuple(("ge", lowest_row([chance.randint(-10 ** 9, 10 ** 9) for _ in names] + [10 ** 11, chance.randint(1, 9)])) for _ in range(40))
        family = check_family((tuple(sorted(names)), (), system))
        with Within(self, 10):
            self.is_told(family, (family[0], (), system[:20]), True)
            is_within((family[0], (), system[:20]), family)

    def test_by_chance(self):
        chance = Random(3)
        told = {True: 0, False: 0}
        names = needed(AB)
        for _ in range(300):
            families = []
            for _ in range(2):
                unknown = tuple(sorted(chance.sample(names, chance.randint(0, 2))))
                system = []
                for _ in range(chance.randint(0, 3)):
                    slopes = [chance.randint(-1, 1) for _ in unknown]
                    system.append((chance.choice(("ge", "gt", "ge", "eq")), lowest_row(slopes + [chance.randint(-1, 1), 1])))
                families.append(family_with(unknown, tuple(system)))
            family, other = families
            found = is_within(family, other)
            told[found] += 1
            for tops in [[chance.randint(0, 3) for _ in family[0]] for _ in range(20)]:
                font = family_font(family, lowest_row(tops + [chance.randint(1, 2)]))
                if is_font_of(family, font) and found:
                    self.assertTrue(is_font_of(other, font))
        self.assertGreater(min(told.values()), 50)


if __name__ == "__main__":
    unittest.main()
