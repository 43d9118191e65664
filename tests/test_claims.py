import unittest
from fractions import Fraction
from itertools import product
from random import Random

from chance import as_fraction, some_claim, some_font, some_formulas
from everyfont.claims import apart, broken, check_claim, fits, is_so
from everyfont.errors import NotClaim, NotFont, TooGreat
from everyfont.fonts import needed
from everyfont.formulas import check_formula, paths_of
from everyfont.places import sides_of
from wrong import ANYTHING, Within, deep_tuple, raised

A, B, C = ("sign", "a"), ("sign", "b"), ("sign", "c")
FORMULA = ("row", A, ("over", B, C))
GAP, WIDE = ("gap", 0), ("wide", "a", 0)
ONE, LESS, NONE = (1, 1), (-1, 1), (0, 1)
RIGHT, LEFT_A = ((), "right"), ((1,), "left")
SUM = ((RIGHT, ONE), (GAP, (-3, 2)), (None, (5, 1)))
SO, NEVER = ("and",), ("or",)
WORDS = ("lt", "le", "eq", "ne", "ge", "gt")


def told(word, *pairs):
    return ("is", word, pairs)


def number(value):
    """Return the SUM of a number."""
    return ((None, as_fraction(Fraction(value))),)


def nested(word, claim, times):
    for _ in range(times):
        claim = (word, claim)
    return claim


class CheckClaim(unittest.TestCase):
    def fails(self, value, path):
        with self.subTest(value):
            self.assertEqual(raised(self, NotClaim, check_claim, FORMULA, value).path, path)

    def test_claims(self):
        places = tuple((path, word) for path in paths_of(FORMULA) for word in ("left", "base", "right", "top", "bottom"))
        for claim in (
                SO, NEVER, ("not", SO), ("and", SO, NEVER, SO), ("or", ("and", NEVER), ("not", ("or",))), told("lt"), told("eq", *SUM),
                *(told(word, *SUM) for word in WORDS), *(told("le", (place, ONE)) for place in places), *(told("ge", (name, LESS)) for name in needed(FORMULA)),
                told("gt", (None, NONE), (None, NONE), (RIGHT, NONE), (RIGHT, ONE), (RIGHT, ONE), (GAP, NONE)), ("not", ("not", told("ne", *SUM))),
                told("lt", *SUM * 100), told("lt", (None, (10 ** 3999, 1)))):
            with self.subTest(claim):
                self.assertIs(check_claim(FORMULA, claim), claim)
        self.assertIs(check_claim(value=SO, formula=FORMULA), SO)

    def test_words_and_lengths(self):
        for value in ANYTHING + (
                (), ("is",), ("is", "lt"), ("is", "lt", SUM, SUM), ("is", SUM), ("not",), ("not", SO, SO), ("nor", SO), ("And",), ("", SO), (None, SO),
                (True, SO), (("and",),), ("lt", SUM), ["and"], [("and",)], ["not", SO], {"and"}, "and", "or", ("xor", SO, SO), (b"and",), deep_tuple(100)):
            self.fails(value, ())
            self.fails(("not", value), (1,))
            self.fails(("and", SO, value, ("nor",)), (2,))
            self.fails(("or", ("not", ("and", told("eq", *SUM), value))), (1, 1, 2))

    def test_wrong_words_behind_is(self):
        for word in ("", "LT", "lt ", "is", "and", "neq", None, True, 0, ("lt",), ["lt"], b"lt", {}, deep_tuple(90)):
            self.fails(("is", word, SUM), (1,))
            self.fails(("is", word, None), (1,))
            self.fails(("or", SO, ("is", word, SUM)), (2, 1))

    def test_sums_that_are_no_tuples(self):
        for value in (None, [], list(SUM), True, 1, "ab", {}, {SUM[0]}, range(0)):
            self.fails(("is", "lt", value), (2,))
            self.fails(("not", ("is", "lt", value)), (1, 2))

    def test_things_that_are_no_pairs(self):
        for value in ANYTHING + (
                (RIGHT,), RIGHT + ONE, (RIGHT, ONE, ONE), list(SUM[0]), (ONE, RIGHT), (RIGHT, 1), (RIGHT, None), (RIGHT, (2, 2)), (RIGHT, (1, 0)), (RIGHT, (1, -1)),
                (RIGHT, (True, 1)), (RIGHT, (1, True)), (RIGHT, [1, 1]), (RIGHT, (1, 1, 1)), (RIGHT, (1.0, 1)), deep_tuple(90)):
            self.fails(("is", "lt", (value,)), (2, 0))
            self.fails(("is", "lt", SUM + (value, None)), (2, 3))
            self.fails(("and", SO, ("is", "lt", SUM + (value,))), (2, 2, 3))

    def test_things_that_are_none(self):
        for thing in (
                True, False, 0, 1, "", "left", (), (None,), ((),), ((), "left", 1), ((), "Left"), ((), "wide"), ((), ""), ((), None), ((), ["left"]), ([], "left"),
                (None, "left"), ((3,), "left"), ((0,), "left"), ((-1,), "left"), ((True,), "left"), ((2, True), "left"), ((2, 3), "left"), ((2, 1, 1), "left"),
                ((1.0,), "left"), (("1",), "left"), (((),), "left"), (1, "left"), ("left", ()), ["gap", 0], ("gap",), ("gap", 1), ("gap", False), ("gap", True),
                ("gap", 0.0), ("gap", 8), ("gap", -1), ("wide", "b", 0), ("wide", "a", 1), ("wide", "a"), ("wide", "a", False), ("wide", "d", 0), ("Wide", "a", 0),
                ("axis", 1), ("sign", "a"), ("gap", 0, 0), (("gap", 0),), deep_tuple(80), ((deep_tuple(80),), "left"), (deep_tuple(80), "left")):
            self.fails(("is", "lt", ((thing, ONE),)), (2, 0))
            self.fails(("is", "lt", ((None, ONE), (thing, ONE), (RIGHT, None))), (2, 1))

    def test_the_first_fault_is_told(self):
        self.fails(("and", ("is", "lt", (None,)), ("is", "??", None), ()), (1, 2, 0))
        self.fails(("and", ("is", "??", (None,)), ()), (1, 1))
        self.fails(("and", SO, (), ("is", "??", (None,))), (2,))
        self.fails(("not", ("or", SO, ("not", ("is", "lt", (SUM[0], ((), "left")))))), (1, 2, 1, 2, 1))
        # Words and depth come at the end.
        self.fails(("and",) + (SO,) * 60 + (None,), (61,))
        self.fails(nested("not", ("is", "lt", None), 20), (1,) * 20 + (2,))

    def test_words_and_depth(self):
        leaf = told("lt", *SUM)
        for claim in (
                ("and",) + (SO,) * 59, ("or",) + (leaf,) * 59, ("and",) + (("not", leaf),) * 29, nested("not", SO, 7), nested("and", NEVER, 7), nested("or", leaf, 7),
                ("and", nested("not", leaf, 6), nested("or", SO, 6))):
            self.assertIs(check_claim(FORMULA, claim), claim)
        for claim in (
                ("and",) + (SO,) * 60, ("or",) + (leaf,) * 60, ("and", SO) + (("not", leaf),) * 29 + (SO,), nested("not", SO, 8), nested("and", NEVER, 8),
                nested("or", leaf, 8), nested("not", leaf, 40), ("or", SO, nested("not", ("or", SO), 6))):
            self.fails(claim, ())

    def test_the_formula_counts(self):
        self.assertIs(check_claim(A, SO), SO)
        self.assertEqual(raised(self, NotClaim, check_claim, A, told("lt", *SUM)).path, (2, 1))
        self.assertEqual(raised(self, NotClaim, check_claim, A, told("lt", (LEFT_A, ONE))).path, (2, 0))
        table = ("table", ((A, B),))
        claim = told("lt", (((1, 0, 1), "top"), ONE))
        self.assertIs(check_claim(table, claim), claim)
        for path in ((1, 0, 2), (1, 1, 0), (1, 0), (1,), (1, False, 1), (1, 0, True)):
            self.assertEqual(raised(self, NotClaim, check_claim, table, told("lt", ((path, "top"), ONE))).path, (2, 0))

    def test_lists_stay_as_they_are(self):
        value = ("is", "lt", [[None, [1, 1]]])
        self.fails(value, (2,))
        self.assertEqual(value, ("is", "lt", [[None, [1, 1]]]))


class IsSo(unittest.TestCase):
    font = tuple((name, (1, 1)) for name in needed(FORMULA))

    def is_told(self, claim, found, formula=FORMULA, font=None):
        with self.subTest(claim):
            check_claim(formula, claim)
            self.assertIs(is_so(formula, self.font if font is None else font, claim), found)

    def test_numbers(self):
        for value in (-2, "-1/3", 0, "1/3", 2):
            sign = (Fraction(value) > 0) - (Fraction(value) < 0)
            for word, signs in (("lt", (-1,)), ("le", (-1, 0)), ("eq", (0,)), ("ne", (-1, 1)), ("ge", (0, 1)), ("gt", (1,))):
                self.is_told(("is", word, number(value)), sign in signs)
                self.is_told(("not", ("is", word, number(value))), sign not in signs)
        # The empty sum is 0; FRACTIONS of 0; a THING more than once.
        self.is_told(told("eq"), True)
        self.is_told(told("ne"), False)
        self.is_told(told("eq", (RIGHT, NONE), (None, NONE)), True)
        self.is_told(told("eq", (RIGHT, ONE), (GAP, (-1, 2)), (RIGHT, LESS), (None, (1, 3)), (None, (1, 6))), True)

    def test_places(self):
        # a is 1 wide, then space, then the over: 3 wide, its middle at 7/2.
        for path, sides in (
                ((), (0, 5, 0, 5, -2)), ((1,), (0, 1, 0, 1, -1)), ((2,), (2, 5, 0, 5, -2)), ((2, 1), (3, 4, 4, 5, 3)), ((2, 2), (3, 4, -1, 0, -2))):
            for word, side in zip(("left", "right", "base", "top", "bottom"), sides):
                self.is_told(told("eq", ((path, word), ONE), (None, (-side, 1))), True)
                self.is_told(told("lt", ((path, word), ONE), (None, (-side, 1))), False)
                self.is_told(told("gt", ((path, word), (2, 1)), (None, (1 - 2 * side, 1))), True)

    def test_names(self):
        self.is_told(told("eq", (GAP, ONE), (WIDE, (2, 1)), (None, (-3, 1))), True)
        self.is_told(told("gt", (WIDE, ONE), (GAP, LESS)), False)

    def test_words(self):
        yes, no = told("eq"), told("ne")
        for claim, found in (
                (SO, True), (NEVER, False), (("not", SO), False), (("not", NEVER), True), (("and", yes), True), (("and", yes, no), False), (("and", no, yes), False),
                (("and", yes, yes, yes), True), (("or", no), False), (("or", no, yes), True), (("or", yes, no), True), (("or", no, no, no), False),
                (("not", ("not", yes)), True), (("not", ("and", yes, no)), True), (("not", ("or", no, no)), True), (("and", SO, ("not", NEVER)), True),
                (("or", NEVER, ("not", SO)), False), (("and", ("or", no, yes), ("not", ("and", yes, no))), True)):
            self.is_told(claim, found)
        self.assertIs(is_so(claim=SO, font=self.font, formula=FORMULA), True)

    def test_fonts_that_do_not_serve(self):
        for place, (name, _) in enumerate(self.font):
            for claim in (SO, NEVER, told("lt", *SUM)):
                self.assertEqual(raised(self, NotFont, is_so, FORMULA, self.font[:place] + self.font[place + 1:], claim).name, name)
                self.assertEqual(raised(self, NotFont, is_so, FORMULA, self.font[:place], claim).name, name)

    def test_against_places_told_otherwise(self):
        for formula, chance in some_formulas(150, 71):
            font = some_font(chance, needed(formula), chance.random() < 0.7)
            numbers = dict(font)
            claim = some_claim(chance, formula, 4)
            self.is_told(claim, self.holds(formula, font, numbers, claim), formula, font)

    def holds(self, formula, font, numbers, claim):
        """Return the same by the sides of the parts."""
        word = claim[0]
        if word != "is":
            parts = [self.holds(formula, font, numbers, part) for part in claim[1:]]
            return not parts[0] if word == "not" else {"and": all, "or": any}[word](parts)
        total = Fraction(0)
        for thing, share in claim[2]:
            if thing is None:
                value = (1, 1)
            elif isinstance(thing[0], tuple):
                value = sides_of(formula, font, thing[0])[("left", "right", "base", "top", "bottom").index(thing[1])]
            else:
                value = numbers[thing]
            total += Fraction(*share) * Fraction(*value)
        return {"lt": total < 0, "le": total <= 0, "eq": total == 0, "ne": total != 0, "ge": total >= 0, "gt": total > 0}[claim[1]]


class Broken(unittest.TestCase):
    def test_is(self):
        below = ((RIGHT, LESS), (GAP, (3, 2)), (None, (-5, 1)))
        for word, found in (
                ("lt", ((("ge", SUM),),)), ("le", ((("gt", SUM),),)), ("eq", ((("gt", below),), (("gt", SUM),))), ("ne", ((("eq", SUM),),)),
                ("ge", ((("gt", below),),)), ("gt", ((("ge", below),),))):
            self.assertEqual(broken(told(word, *SUM)), found)
        for word, made in (
                ("lt", ((("gt", below),),)), ("le", ((("ge", below),),)), ("eq", ((("eq", SUM),),)), ("ne", ((("gt", below),), (("gt", SUM),))),
                ("ge", ((("ge", SUM),),)), ("gt", ((("gt", SUM),),))):
            self.assertEqual(broken(("not", told(word, *SUM))), made)
            self.assertEqual(broken(("not", ("not", ("not", told(word, *SUM))))), made)
        self.assertEqual(broken(told("lt", (None, NONE), (None, NONE))), ((("ge", ((None, NONE), (None, NONE))),),))
        self.assertEqual(broken(told("ge")), ((("gt", ()),),))
        self.assertEqual(broken(claim=told("lt")), ((("ge", ()),),))

    def test_no_parts(self):
        self.assertEqual(broken(SO), ())
        self.assertEqual(broken(NEVER), ((),))
        self.assertEqual(broken(("not", SO)), ((),))
        self.assertEqual(broken(("not", NEVER)), ())
        self.assertEqual(broken(("and", SO, NEVER, SO, NEVER)), ((), ()))
        self.assertEqual(broken(("or", NEVER, NEVER)), ((),))
        self.assertEqual(broken(("or", NEVER, SO)), ())
        self.assertEqual(broken(("or", SO, told("lt"))), ())

    def test_and_or(self):
        one, two, three, four = (told("lt", (None, (k, 1))) for k in (1, 2, 3, 4))
        p, q, r, s = ((("ge", ((None, (k, 1)),)),) for k in (1, 2, 3, 4))
        self.assertEqual(broken(("and", one, two, three)), (p, q, r))
        self.assertEqual(broken(("or", one, two, three)), (p + q + r,))
        # The first part's change slowest.
        self.assertEqual(broken(("or", ("and", one, two), ("and", three, four))), (p + r, p + s, q + r, q + s))
        self.assertEqual(broken(("or", ("and", one, two), three, ("and", four, one))), (p + r + s, p + r + p, q + r + s, q + r + p))
        self.assertEqual(broken(("and", ("or", one, two), three)), (p + q, r))
        self.assertEqual(broken(("not", ("or", ("not", one), ("not", two)))), (p, q))
        self.assertEqual(broken(("not", ("and", ("not", one), ("not", two)))), (p + q,))
        self.assertEqual(broken(("and", one, one)), (p, p))
        self.assertEqual(broken(("or", one, one)), (p + p,))
        self.assertEqual(broken(("or", one, SO)), ())
        self.assertEqual(broken(("and", NEVER, one)), ((), p))
        self.assertEqual(broken(("or", NEVER, one)), (p,))

    def test_eq_breaks_in_two_ways(self):
        up, down = (("gt", ((GAP, ONE),)),), (("gt", ((GAP, LESS),)),)
        one = told("eq", (GAP, ONE))
        self.assertEqual(broken(one), (down, up))
        self.assertEqual(broken(("or", one, one)), (down + down, down + up, up + down, up + up))
        self.assertEqual(broken(("or", one, told("lt"), one))[1], down + (("ge", ()),) + up)

    def test_64_and_65_conjunctions(self):
        one, two = told("lt"), told("eq")
        self.assertEqual(len(broken(("or",) + (two,) * 6)), 64)
        self.assertEqual(raised(self, TooGreat, broken, ("or",) + (two,) * 7).most, 64)
        self.assertEqual(len(broken(("and", ("or",) + (two,) * 5, ("or",) + (two,) * 5))), 64)
        self.assertEqual(raised(self, TooGreat, broken, ("and", ("or",) + (two,) * 6, one)).most, 64)
        self.assertEqual(len(broken(("and",) + (two,) * 29)), 58)
        self.assertEqual(len(broken(("or", ("and",) + (one,) * 5, ("and",) + (one,) * 12))), 60)
        self.assertEqual(raised(self, TooGreat, broken, ("or", ("and",) + (one,) * 5, ("and",) + (one,) * 13)).most, 64)
        # 5 * 13 = 65; and 65 one behind another.
        many = ("and", ("or",) + (two,) * 5, ("or",) + (two,) * 4, ("or",) + (two,) * 4, one)
        self.assertEqual(raised(self, TooGreat, broken, many).most, 64)
        self.assertEqual(len(broken(many[:-1])), 64)
        self.assertEqual(raised(self, TooGreat, broken, ("not", ("and",) + (told("ne"),) * 7)).most, 64)
        self.assertEqual(len(broken(("not", ("and",) + (told("ne"),) * 6))), 64)

    def test_65_on_the_way(self):
        seven = ("or",) + (told("eq"),) * 7
        # With a part that is always so there would be none of the whole.
        for claim in (("or", seven, SO), ("or", SO, seven), ("or", SO, ("and", seven)), ("not", ("and", NEVER, ("not", seven))), ("and", SO, seven), ("not", ("not", seven))):
            self.assertEqual(raised(self, TooGreat, broken, claim).most, 64)
        # Parts that have few each, the first ones together too many, but with the last one none.
        for claim in (("or",) + (told("eq"),) * 7 + (SO,), ("or", SO) + (told("eq"),) * 7, ("or",) + (told("eq"),) * 5 + (SO,) + (told("eq"),) * 5):
            self.assertEqual(broken(claim), ())
        # What is not asked for is not on the way: MADE of these has 128, BROKEN one.
        made = ("and",) + (told("ne"),) * 7
        self.assertEqual(len(broken(made)), 7)
        self.assertEqual(raised(self, TooGreat, broken, ("not", made)).most, 64)

    def test_most_words(self):
        claim = ("or",) + (told("lt", *SUM),) * 59
        check_claim(FORMULA, claim)
        with Within(self, 2):
            self.assertEqual(broken(claim), (((("ge", SUM),) * 59),))
        self.assertEqual(broken(("and",) + (told("lt", *SUM),) * 59), ((("ge", SUM),),) * 59)
        halves = ("or",) + (("and",) + (told("lt"),) * 2,) * 6
        self.assertEqual(len(broken(halves)), 64)
        self.assertEqual(set(map(len, broken(halves))), {6})
        choices = product(*(((("ge", number(k)),), (("ge", number(-k)),)) for k in range(1, 7)))
        claim = ("or",) + tuple(("and", told("lt", *number(k)), told("lt", *number(-k))) for k in range(1, 7))
        self.assertEqual(broken(claim), tuple(sum(choice, ()) for choice in choices))

    def test_a_conjunction_is_so_exactly_where_a_claim_is_not(self):
        chance = Random(1)
        looked = 0
        for formula, _ in some_formulas(150, 72):
            claim = some_claim(chance, formula, 4)
            try:
                ways = broken(claim)
            except TooGreat:
                continue
            self.assertEqual(broken(claim), ways)
            for _ in range(3):
                font = some_font(chance, needed(formula))
                found = any(all(is_so(formula, font, ("is", *pair)) for pair in way) for way in ways)
                self.assertEqual(found, not is_so(formula, font, claim))
                looked += 1
        self.assertGreater(looked, 300)


class FitsAndApart(unittest.TestCase):
    def test_fits(self):
        self.assertEqual(fits((7, 2)), ("is", "le", ((((), "right"), (1, 1)), (None, (-7, 2)))))
        self.assertEqual(fits((0, 1)), ("is", "le", ((((), "right"), (1, 1)), (None, (0, 1)))))
        self.assertEqual(fits(width=(-1, 3))[2][1], (None, (1, 3)))
        self.assertIs(check_claim(FORMULA, fits((5, 1))) == fits((5, 1)), True)
        font = IsSo.font
        self.assertIs(is_so(FORMULA, font, fits((5, 1))), True)
        self.assertIs(is_so(FORMULA, font, fits((49, 10))), False)

    def test_apart(self):
        def side(place, other):
            return ("is", "le", ((place, (1, 1)), (other, (-1, 1))))
        one, two = (1,), (2, 1)
        self.assertEqual(apart(one, two), (
            "or", side((one, "right"), (two, "left")), side((two, "right"), (one, "left")), side((one, "top"), (two, "bottom")),
            side((two, "top"), (one, "bottom"))))
        self.assertEqual(apart(path=one, other=two), apart(one, two))
        self.assertEqual(apart((), ())[1], side(((), "right"), ((), "left")))
        self.assertEqual(check_claim(FORMULA, apart(one, two)), apart(one, two))

    def test_apart_is_so(self):
        font = IsSo.font
        for one, two, found in (((1,), (2,), True), ((2,), (1,), True), ((1,), (2, 1), True), ((2, 1), (2, 2), True), ((2, 2), (2, 1), True), ((), (1,), False),
                                ((2,), (2, 1), False), ((1,), (1,), False)):
            self.assertIs(is_so(FORMULA, font, apart(one, two)), found)
        self.assertIs(is_so(("high", A, B), tuple((name, (1, 1)) for name in needed(("high", A, B))), apart((1,), (2,))), True)


class Formulas(unittest.TestCase):
    def test_the_formula_of_these_tests(self):
        self.assertIs(check_formula(FORMULA), FORMULA)


if __name__ == "__main__":
    unittest.main()
