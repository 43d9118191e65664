import unittest
from random import Random

from chance import family_for, some_claim, some_family, some_formula
from everyfont.claims import apart, fits, is_so
from everyfont.desks import Desk, check_thing
from everyfont.errors import (
    Empty, FontError, NotClaim, NotFamily, NotFont, NotFormula, NotName, NotPaper, NotSystem, TooGreat)
from everyfont.families import family_font, family_pairs, is_font_of
from everyfont.following import is_within, led_claim
from everyfont.plains import plain
from everyfont.prover import check_judged, judge
from everyfont.systems import holds_all
from wrong import ANYTHING, Within, deep_tuple, raised

A, B, C = ("sign", "a"), ("sign", "b"), ("sign", "c")
AB = ("row", A, B)
WIDE_A, WIDE_B = ("wide", "a", 0), ("wide", "b", 0)
# a is from above 0 to 3 wide, b is 1 wide, and so is the space.
FAMILY = family_for(AB, WIDE_A, system=(("ge", (-1, 3, 1)),))
NARROW = family_for(AB, WIDE_A, system=(("ge", (-1, 2, 1)),))
NOWHERE = family_for(AB, WIDE_A, system=(("gt", (-1, 0, 1)),))
FIVE, FOUR = fits((5, 1)), fits((4, 1))


def label_of(number):
    """Return a LABEL for a number."""
    return "abcdefghijklmnopqrstuvwxyz"[number // 26] + "abcdefghijklmnopqrstuvwxyz"[number % 26]


def desk_with(**things):
    """Return a Desk on which LABELS stand for FORMULAS, FAMILIES and CLAIMS."""
    desk = Desk()
    for label, thing in things.items():
        word = "claim" if thing[0] in ("is", "not", "and", "or") else "formula" if isinstance(thing[0], str) else "family"
        desk.put(label, (word, thing))
    return desk


def state(desk):
    """Return all that a Desk tells of itself."""
    return tuple((label, desk.thing(label)) for label in desk.labels()), desk.acts, len(desk), desk.entries()


class CheckThing(unittest.TestCase):
    def test_things(self):
        for value in (
                ("formula", A), ("formula", ("table", ((A, B),))), ("family", FAMILY), ("family", ((), (), ())), ("claim", FIVE), ("claim", ("and",)),
                ("claim", apart((60, 0, 60), (1,) * 50)), ("claim", ("is", "eq", ((("wide", "zzzzzzzz", 7), (1, 2)), (("gap", 5), (0, 1)), (None, (-1, 1))))),
                ("claim", ("is", "eq", (((None, (1, 1)),) * 61))), ("claim", ("or", *((("and",),) * 59)))):
            self.assertIs(check_thing(value), value)
            self.assertIs(check_thing(value=value), value)

    def test_other_values(self):
        for value in ANYTHING + (
                ["formula", A], ("formula",), ("formula", A, B), ("family",), ("Formula", A), ("row", A), ("claim", FIVE, 1), (("formula",), A), (A, "formula"),
                ("font", ()), deep_tuple(100)):
            self.assertIs(raised(self, NotName, check_thing, value).name, value)

    def test_what_is_in_them(self):
        for value in ANYTHING:
            self.assertEqual(raised(self, NotFormula, check_thing, ("formula", value)).path, ())
            self.assertEqual(raised(self, NotFamily, check_thing, ("family", value)).place, -1)
            self.assertEqual(raised(self, NotClaim, check_thing, ("claim", value)).path, ())
        self.assertEqual(raised(self, NotFormula, check_thing, ("formula", ("row", A, ("bar", None)))).path, (2, 1))
        self.assertEqual(raised(self, NotFormula, check_thing, ("formula", ("row", *((A,) * 60)))).path, ())
        self.assertEqual(raised(self, NotFamily, check_thing, ("family", ((A,), (), ()))).place, 0)
        self.assertEqual(raised(self, NotFamily, check_thing, ("family", ((WIDE_A,), ((WIDE_A, (1, 1)),), ()))).place, 1)
        self.assertIsNone(raised(self, NotSystem, check_thing, ("family", ((), (), None))).number)
        self.assertEqual(raised(self, NotSystem, check_thing, ("family", ((), (), (("ge", (1, 1)), None)))).number, 1)

    def test_claims(self):
        def in_sum(thing):
            return ("claim", ("and", ("is", "eq", ((None, (1, 1)), (thing, (1, 1))))))

        for path in ((61,), (-1,), (True,), (1, 61), (1, None), [1], 1, None, "1", (1.0,), ((1,),)):
            self.assertEqual(raised(self, NotClaim, check_thing, in_sum((path, "left"))).path, (1, 2, 1))
        for name in (("wide", "a", 8), ("wide", "A", 0), ("wide", 0), ("gap", "a", 0), ("gap", True), ("none", 0), ("gap",), (), 0, "gap", ((1,), "middle"), ((1,), "left", 0)):
            self.assertEqual(raised(self, NotClaim, check_thing, in_sum(name)).path, (1, 2, 1))
        deep = ("and",)
        for _ in range(7):
            deep = ("not", deep)
        self.assertEqual(check_thing(("claim", deep)), ("claim", deep))
        for value, path in (
                (("not", deep), ()), (("or", *((("and",),) * 60)), ()), (("is", "xx", ()), (1,)), (("is", "eq", None), (2,)), (("is", "eq", ((None, 1),)), (2, 0)),
                (("and", ("not",)), (1,)), (("is", "eq"), ()), (("is", "eq", ((((0,), "left"), (2, 2)),)), (2, 0))):
            self.assertEqual(raised(self, NotClaim, check_thing, ("claim", value)).path, path)


class Edits(unittest.TestCase):
    def test_a_new_desk(self):
        desk = Desk()
        self.assertEqual(state(desk), ((), 0, 0, ()))
        self.assertEqual((desk.labels(), desk.open_cases()), ((), ()))
        raised(self, Empty, desk.undo)
        raised(self, Empty, desk.redo)
        self.assertEqual(state(desk), ((), 0, 0, ()))

    def test_put_drop_and_rename(self):
        desk = Desk()
        self.assertIsNone(desk.put("f", ("formula", A)))
        self.assertEqual((desk.labels(), len(desk), desk.acts, desk.thing("f")), (("f",), 1, 1, ("formula", A)))
        self.assertIsNone(desk.put(label="e", thing=("claim", FIVE)))
        self.assertEqual((desk.labels(), len(desk), desk.acts), (("e", "f"), 2, 2))
        # Another kind of thing for a LABEL that stands for one.
        desk.put("f", ("family", FAMILY))
        self.assertEqual((desk.labels(), len(desk), desk.acts, desk.thing(label="f")), (("e", "f"), 2, 3, ("family", FAMILY)))
        self.assertIsNone(desk.rename("f", "aaaaaaaa"))
        self.assertEqual((desk.labels(), len(desk), desk.acts, desk.thing("aaaaaaaa")), (("aaaaaaaa", "e"), 2, 4, ("family", FAMILY)))
        self.assertEqual(raised(self, NotName, desk.thing, "f").name, "f")
        self.assertIsNone(desk.drop("e"))
        self.assertEqual((desk.labels(), len(desk), desk.acts), (("aaaaaaaa",), 1, 5))
        self.assertIsNone(desk.rename(fresh="f", label="aaaaaaaa"))
        self.assertIsNone(desk.drop(label="f"))
        self.assertEqual((desk.labels(), len(desk), desk.acts), ((), 0, 7))

    def test_the_same_thing_again_is_an_edit(self):
        desk = desk_with(f=A)
        desk.put("f", ("formula", A))
        self.assertEqual(desk.acts, 2)
        desk.undo()
        self.assertEqual((desk.acts, desk.labels()), (1, ("f",)))

    def test_undo_and_redo(self):
        desk = Desk()
        states = [state(desk)]
        for edit in (
                lambda: desk.put("f", ("formula", A)), lambda: desk.put("g", ("family", FAMILY)), lambda: desk.put("f", ("formula", B)), lambda: desk.rename("f", "h"),
                lambda: desk.drop("g"), lambda: desk.put("f", ("claim", FOUR))):
            edit()
            states.append(state(desk))
        for _ in range(2):
            for number in range(5, -1, -1):
                self.assertIsNone(desk.undo())
                self.assertEqual(state(desk), states[number])
            raised(self, Empty, desk.undo)
            self.assertEqual(state(desk), states[0])
            for number in range(1, 7):
                self.assertIsNone(desk.redo())
                self.assertEqual(state(desk), states[number])
            raised(self, Empty, desk.redo)
            self.assertEqual(state(desk), states[6])

    def test_an_edit_forgets_what_could_be_redone(self):
        for edit in (lambda desk: desk.put("g", ("formula", B)), lambda desk: desk.drop("f"), lambda desk: desk.rename("f", "h")):
            desk = desk_with(f=A, e=B)
            desk.undo()
            edit(desk)
            raised(self, Empty, desk.redo)
            self.assertEqual(desk.acts, 2)
        # What raises an error forgets nothing.
        desk = desk_with(f=A, e=B)
        desk.undo()
        for call in (lambda: desk.put("g", None), lambda: desk.put("", ("formula", A)), lambda: desk.drop("e"), lambda: desk.rename("f", "f"), lambda: desk.rename("e", "g")):
            self.assertRaises(FontError, call)
        desk.redo()
        self.assertEqual(desk.labels(), ("e", "f"))

    def test_labels_that_are_none(self):
        desk = desk_with(f=A)
        before = state(desk)
        for label in ANYTHING + ("aaaaaaaaa", "A", "f1", "f ", "f\n", "\u00e4", ("f",), ["f"], deep_tuple(100)):
            if label not in ("a", "sign"):
                self.assertIs(raised(self, NotName, desk.put, label, None).name, label)
                self.assertIs(raised(self, NotName, desk.rename, "f", label).name, label)
            for call in (desk.drop, desk.thing, desk.hangs):
                self.assertIs(raised(self, NotName, call, label).name, label)
            self.assertIs(raised(self, NotName, desk.rename, label, label).name, label)
        self.assertEqual(raised(self, NotName, desk.rename, "f", "f").name, "f")
        desk.put("g", ("formula", B))
        self.assertEqual(raised(self, NotName, desk.rename, "f", "g").name, "g")
        self.assertEqual(raised(self, NotName, desk.rename, "h", "f").name, "h")
        desk.undo()
        self.assertEqual(state(desk), before)

    def test_things_that_are_none(self):
        desk = Desk()
        for value in ANYTHING:
            self.assertIs(raised(self, NotName, desk.put, "f", value).name, value)
        self.assertEqual(raised(self, NotFormula, desk.put, "f", ("formula", ("row",))).path, ())
        self.assertEqual(raised(self, NotFamily, desk.put, "f", ("family", ())).place, -1)
        self.assertEqual(raised(self, NotClaim, desk.put, "f", ("claim", ("is", "eq", (1,)))).path, (2, 0))
        self.assertEqual(raised(self, NotName, desk.put, "F", ("formula", None)).name, "F")
        self.assertEqual(state(desk), ((), 0, 0, ()))

    def test_forty_labels(self):
        desk = Desk()
        for number in range(40):
            desk.put(label_of(number), ("formula", A))
        before = state(desk)
        self.assertEqual(raised(self, TooGreat, desk.put, label_of(40), ("formula", A)).most, 40)
        # What is wrong with the thing comes first.
        self.assertEqual(raised(self, NotFormula, desk.put, label_of(40), ("formula", None)).path, ())
        self.assertEqual(state(desk), before)
        desk.put(label_of(39), ("formula", B))
        desk.rename(label_of(39), label_of(40))
        self.assertEqual((len(desk), desk.acts), (40, 42))
        desk.drop(label_of(0))
        desk.put(label_of(39), ("formula", B))
        self.assertEqual(raised(self, TooGreat, desk.put, label_of(0), ("formula", A)).most, 40)
        desk.undo()
        desk.undo()
        self.assertEqual(len(desk), 40)

    def test_equality(self):
        self.assertEqual(Desk(), Desk())
        self.assertEqual(desk_with(f=A, g=FAMILY), desk_with(g=FAMILY, f=A))
        for other in (desk_with(f=A), desk_with(f=A, g=NARROW), desk_with(f=A, h=FAMILY), desk_with(f=A, g=FAMILY, h=B), Desk()):
            self.assertNotEqual(desk_with(f=A, g=FAMILY), other)
        # The same things, by another number of edits.
        desk = desk_with(f=A, g=FAMILY)
        desk.put("f", ("formula", A))
        self.assertNotEqual(desk, desk_with(f=A, g=FAMILY))
        desk.undo()
        # What can be redone does not count.
        self.assertEqual(desk, desk_with(f=A, g=FAMILY))
        for other in ANYTHING + (deep_tuple(9), "desk"):
            self.assertFalse(Desk() == other)
            self.assertTrue(Desk() != other)

    def test_books_count_in_equality(self):
        desk, other = desk_with(f=AB, g=FAMILY, c=FIVE, d=FOUR), desk_with(f=AB, g=FAMILY, c=FIVE, d=FOUR)
        desk.ask("f", "g", "c")
        self.assertNotEqual(desk, other)
        other.ask("f", "g", "c")
        self.assertEqual(desk, other)
        desk.ask("f", "g", "d")
        self.assertNotEqual(desk, other)

    def test_copies(self):
        desk = desk_with(f=AB, g=FAMILY, c=FIVE)
        desk.ask("f", "g", "c")
        desk.put("d", ("claim", FOUR))
        desk.undo()
        twin = desk.copy()
        self.assertIsInstance(twin, Desk)
        self.assertEqual(twin, desk)
        self.assertEqual(state(twin), state(desk))
        before = state(desk)
        twin.redo()
        self.assertEqual(twin.labels(), ("c", "d", "f", "g"))
        twin.ask("f", "g", "d")
        twin.drop("f")
        twin.rename("c", "e")
        self.assertEqual(state(desk), before)
        raised(self, Empty, twin.redo)
        desk.redo()
        self.assertEqual(desk.labels(), ("c", "d", "f", "g"))
        own = state(twin)
        for _ in range(4):
            desk.undo()
        desk.put("z", ("formula", C))
        self.assertEqual(state(twin), own)
        self.assertEqual(len(desk.entries()), 1)
        for _ in range(6):
            twin.undo()
        self.assertEqual((len(twin), twin.acts, len(twin.entries())), (0, 0, 2))

    def test_properties(self):
        desk = desk_with(f=A)
        with self.assertRaises(AttributeError):
            desk.acts = 7
        self.assertEqual(desk.acts, 1)


class Book(unittest.TestCase):
    def desk(self):
        return desk_with(f=AB, r=("row", AB), g=FAMILY, n=NARROW, o=NOWHERE, c=FIVE, d=FOUR)

    def test_ask(self):
        desk = self.desk()
        self.assertEqual(desk.entries(), ())
        self.assertIsNone(desk.verdict("f", "g", "c"))
        raised(self, Empty, desk.paper, "f", "g", "c")
        paper = desk.ask("f", "g", "c")
        self.assertEqual(paper, judge(AB, FAMILY, FIVE))
        self.assertEqual((paper[0], check_judged(AB, FAMILY, FIVE, paper)), ("holds", "holds"))
        self.assertEqual(desk.entries(), (((AB, FAMILY, FIVE), AB, FAMILY, FIVE, paper),))
        self.assertIs(desk.ask(claim="c", family="g", formula="f"), paper)
        self.assertEqual(desk.verdict(claim="c", family="g", formula="f"), "holds")
        self.assertEqual(desk.paper(claim="c", family="g", formula="f"), (AB, FIVE, paper))
        other = desk.ask("f", "g", "d")
        self.assertEqual(other[0], "broken")
        self.assertTrue(holds_all(1, family_pairs(FAMILY), other[1]))
        self.assertFalse(is_so(AB, family_font(FAMILY, other[1]), FOUR))
        self.assertEqual(desk.entries()[1:], (((AB, FAMILY, FOUR), AB, FAMILY, FOUR, other),))
        self.assertEqual(desk.verdict("f", "g", "d"), "broken")
        self.assertEqual(desk.acts, 7)

    def test_take(self):
        desk = self.desk()
        paper = judge(AB, FAMILY, FIVE)
        self.assertEqual(desk.take("f", "g", "c", paper), "holds")
        self.assertIs(desk.entries()[0][4], paper)
        self.assertEqual(desk.take(paper=("broken", (5, 2)), claim="d", family="g", formula="f"), "broken")
        self.assertEqual([entry[4] for entry in desk.entries()], [paper, ("broken", (5, 2))])
        # One entry with each KEY.
        self.assertEqual(desk.take("f", "g", "d", ("broken", (3, 1))), "broken")
        self.assertEqual(len(desk.entries()), 2)
        self.assertEqual(desk.ask("f", "g", "d"), ("broken", (5, 2)))

    def test_papers_that_are_none(self):
        desk = self.desk()
        for value in ANYTHING + (("holds",), ["holds", None], ("broken", (3, 1), 1), ("other", (3, 1)), deep_tuple(100)):
            self.assertEqual(raised(self, NotPaper, desk.take, "f", "g", "c", value).path, ())
        for value, path in (
                (("broken", (3, 1)), (1,)), (("broken", (4, 1)), (1,)), (("broken", None), (1,)), (("broken", (6, 2)), (1,)), (("holds", None), (1,)),
                (("holds", ("bar", ())), (1,)), (("holds", ("case", (("bar", None),))), (1, 1, 0))):
            self.assertEqual(raised(self, NotPaper, desk.take, "f", "g", "c", value).path, path)
        self.assertEqual(desk.entries(), ())
        # A wrong PAPER is refused also where there is an entry.
        desk.ask("f", "g", "c")
        self.assertEqual(raised(self, NotPaper, desk.take, "f", "g", "c", ("broken", (3, 1))).path, (1,))
        self.assertEqual(len(desk.entries()), 1)

    def test_two_formulas_with_one_plain_form(self):
        desk = self.desk()
        paper = desk.ask("r", "g", "c")
        self.assertEqual(desk.entries(), (((AB, FAMILY, FIVE), ("row", AB), FAMILY, FIVE, paper),))
        self.assertIs(desk.ask("f", "g", "c"), paper)
        self.assertEqual((desk.verdict("f", "g", "c"), len(desk.entries())), ("holds", 1))
        self.assertEqual(desk.paper("f", "g", "c"), (("row", AB), FIVE, paper))
        # The PAPER is one for the entry's FORMULA; another one is judged for the case's own.
        own = judge(AB, FAMILY, FIVE)
        self.assertEqual(desk.take("f", "g", "c", own), "holds")
        self.assertEqual([entry[4] for entry in desk.entries()], [paper])

    def test_keys_of_paths(self):
        nested = ("row", A, ("row", ("row", B)))
        claim = ("is", "ge", ((((2, 1), "left"), (1, 1)), (((1,), "right"), (-1, 1))))
        led = ("is", "ge", ((((2,), "left"), (1, 1)), (((1,), "right"), (-1, 1))))
        desk = desk_with(f=nested, p=AB, g=FAMILY, c=claim, d=led)
        paper = desk.ask("f", "g", "c")
        self.assertEqual(desk.entries(), (((AB, FAMILY, led), nested, FAMILY, claim, paper),))
        self.assertIs(desk.ask("p", "g", "d"), paper)
        self.assertIs(desk.ask("f", "g", "d"), paper)
        self.assertEqual(len(desk.entries()), 1)
        self.assertEqual(raised(self, NotClaim, desk.ask, "p", "g", "c").path, (2, 0))

    def test_keys_without_led_claims(self):
        whole, flat = ("row", A, AB), ("row", A, A, B)
        family = family_for(whole)
        claim = ("is", "ge", ((((2,), "left"), (1, 1)),))
        desk = desk_with(f=whole, o=("row", whole), p=flat, g=family, c=claim)
        paper = desk.ask("f", "g", "c")
        self.assertEqual(desk.entries(), (((whole, family, claim), whole, family, claim, paper),))
        # In the flat one (2,) is a, which is another thing: another KEY.
        self.assertIsNone(desk.verdict("p", "g", "c"))
        other = desk.ask("p", "g", "c")
        self.assertEqual(desk.entries()[1], ((flat, family, claim), flat, family, claim, other))
        self.assertEqual(raised(self, NotClaim, desk.verdict, "o", "g", "c").path, (2, 0))

    def test_other_families_are_other_keys(self):
        desk = self.desk()
        desk.ask("f", "g", "c")
        self.assertIsNone(desk.verdict("f", "n", "c"))
        desk.ask("f", "n", "c")
        self.assertEqual(len(desk.entries()), 2)

    def test_edits_do_not_change_the_book(self):
        desk = self.desk()
        paper = desk.ask("f", "g", "c")
        entries = desk.entries()
        for edit in (
                lambda: desk.put("f", ("formula", A)), lambda: desk.drop("f"), lambda: desk.put("q", ("formula", AB)), lambda: desk.rename("q", "f"), desk.undo, desk.redo):
            edit()
            self.assertEqual(desk.entries(), entries)
        self.assertIs(desk.ask("f", "g", "c"), paper)
        for _ in range(desk.acts):
            desk.undo()
        self.assertEqual((len(desk), desk.entries()), (0, entries))
        # The same things under other LABELS.
        desk.put("x", ("formula", AB))
        desk.put("y", ("family", FAMILY))
        desk.put("z", ("claim", FIVE))
        self.assertEqual(desk.verdict("x", "y", "z"), "holds")

    def test_too_great(self):
        many = ("not", ("and", *(("is", "ne", ((None, (number, 1)),)) for number in range(1, 8))))
        desk = desk_with(f=AB, g=FAMILY, m=many)
        self.assertEqual(raised(self, TooGreat, desk.ask, "f", "g", "m").most, 64)
        self.assertEqual(raised(self, TooGreat, desk.take, "f", "g", "m", None).most, 64)
        self.assertIsNone(desk.verdict("f", "g", "m"))
        rows = ("row", *(("high", ("sign", letter), ("sign", letter)) for letter in "abcdefgh"))
        family = family_for(rows, *[("high", letter, 0) for letter in "abcdefgh"], *[("high", letter, 1) for letter in "abcd"])
        desk = desk_with(f=rows, g=family, m=many, c=("and",))
        self.assertEqual(raised(self, TooGreat, desk.ask, "f", "g", "m").most, 14)
        self.assertEqual(raised(self, TooGreat, desk.ask, "f", "g", "c").most, 14)
        self.assertEqual(raised(self, TooGreat, desk.take, "f", "g", "m", None).most, 64)
        # A PAPER may come from elsewhere.
        self.assertEqual(desk.take("f", "g", "c", ("holds", ("case", ()))), "holds")
        self.assertEqual(desk.ask("f", "g", "c"), ("holds", ("case", ())))
        self.assertEqual(len(desk.entries()), 1)


class NoCases(unittest.TestCase):
    def test_sequence(self):
        other = family_for(A)
        desk = desk_with(f=AB, g=FAMILY, h=other, c=FIVE, d=fits((1, 1)), e=("is", "eq", ((((3,), "left"), (1, 1)),)))
        before = state(desk)
        calls = (
            desk.ask, desk.verdict, desk.paper, desk.follows, lambda *three: desk.take(*three, None),
            lambda formula, family, claim: desk.take(formula=formula, family=family, claim=claim, paper=("holds", ("case", ()))))
        for call in calls:
            for labels, number in (
                    (("x", "y", "z"), 0), (("f", "y", "z"), 1), (("f", "g", "z"), 2), (("c", "y", "z"), 1), (("c", "f", "z"), 2), (("c", "g", "f"), 0), (("f", "f", "f"), 1),
                    (("f", "c", "g"), 1), (("f", "g", "g"), 2), (("g", "h", "c"), 0), (("f", "h", "f"), 2), (("h", "f", "c"), 0)):
                with self.subTest(labels):
                    self.assertEqual(raised(self, NotName, call, *labels).name, labels[number])
            for value in ANYTHING + (["f"], ("f",), deep_tuple(100)):
                self.assertIs(raised(self, NotName, call, value, value, value).name, value)
                self.assertIs(raised(self, NotName, call, "f", value, value).name, value)
                self.assertIs(raised(self, NotName, call, "c", "c", value).name, value)
            self.assertEqual(raised(self, NotFont, call, "f", "h", "e").name, ("deep", "b", 0))
            self.assertEqual(raised(self, NotClaim, call, "f", "g", "e").path, (2, 0))
        self.assertEqual(state(desk), before)


class Follows(unittest.TestCase):
    def is_told(self, desk, *told):
        """Hold what follows for all cases that are told, as ("f", "g", "c", word), against all that the Desk tells."""
        for *labels, word in told:
            with self.subTest(labels):
                self.assertEqual(desk.follows(*labels), word)
                self.assertEqual(desk.follows(claim=labels[2], family=labels[1], formula=labels[0]), word)
                self.assertEqual(tuple(labels) in desk.open_cases(), word is None)
                for label in labels:
                    self.assertEqual(tuple(labels) in desk.hangs(label), word is not None)

    def test_nothing_follows_from_an_empty_book(self):
        desk = desk_with(f=AB, g=FAMILY, c=FIVE, d=FOUR, n=("not", FIVE))
        self.is_told(desk, ("f", "g", "c", None), ("f", "g", "d", None), ("f", "g", "n", None))
        self.assertEqual(desk.open_cases(), (("f", "g", "c"), ("f", "g", "d"), ("f", "g", "n")))
        self.assertEqual(desk.hangs("f"), ())

    def test_families_without_fonts(self):
        desk = desk_with(f=AB, o=NOWHERE, c=FIVE, d=FOUR, n=("or",))
        self.is_told(desk, ("f", "o", "c", "holds"), ("f", "o", "d", "holds"), ("f", "o", "n", "holds"))
        self.assertEqual(desk.hangs("o"), (("f", "o", "c"), ("f", "o", "d"), ("f", "o", "n")))
        self.assertEqual(desk.hangs(label="n"), (("f", "o", "n"),))

    def test_keys_and_families_within(self):
        desk = desk_with(f=AB, r=("row", ("row", A), B), g=FAMILY, n=NARROW, w=family_for(AB, WIDE_A), x=family_for(AB, wide=3), c=FIVE, d=FOUR)
        desk.ask("f", "g", "c")
        self.is_told(
            desk, ("f", "g", "c", "holds"), ("r", "g", "c", "holds"), ("f", "n", "c", "holds"), ("r", "n", "c", "holds"), ("f", "w", "c", None), ("f", "x", "c", None),
            ("f", "g", "d", None), ("f", "n", "d", None))
        # All wide: 3 + 1 + 3.
        desk.ask("f", "x", "c")
        self.is_told(desk, ("f", "x", "c", "broken"), ("f", "x", "d", "broken"), ("f", "g", "c", "holds"), ("f", "g", "d", None))

    def test_another_key_with_the_same_claim(self):
        # (2,) has no place in one of them, so that the KEYS have other first things.
        whole, flat = ("row", A, AB), ("row", A, A, B)
        family = family_for(whole)
        claim = ("is", "ge", ((((2,), "left"), (1, 1)),))
        desk = desk_with(f=whole, p=flat, g=family, c=claim)
        desk.ask("f", "g", "c")
        self.is_told(desk, ("f", "g", "c", "holds"), ("p", "g", "c", None))

    def test_and(self):
        six = fits((6, 1))
        desk = desk_with(f=AB, g=FAMILY, c=FIVE, d=six, b=("and", FIVE, six), t=("and", FIVE, six, FIVE), e=("and",), o=("or",))
        self.is_told(desk, ("f", "g", "b", None), ("f", "g", "e", "holds"), ("f", "g", "o", None))
        desk.ask("f", "g", "c")
        self.is_told(desk, ("f", "g", "b", None), ("f", "g", "t", None), ("f", "g", "d", None))
        desk.ask("f", "g", "d")
        self.is_told(desk, ("f", "g", "b", "holds"), ("f", "g", "t", "holds"), ("f", "g", "d", "holds"), ("f", "g", "o", None))
        # The other way round nothing follows: not from an "and" for its parts.
        desk = desk_with(f=AB, g=FAMILY, c=FIVE, b=("and", FIVE, six))
        desk.ask("f", "g", "b")
        self.is_told(desk, ("f", "g", "b", "holds"), ("f", "g", "c", None))

    def test_or(self):
        desk = desk_with(f=AB, g=FAMILY, c=FIVE, d=FOUR, b=("or", FOUR, FIVE), t=("or", ("and", FIVE), FOUR), e=("or", FOUR))
        self.is_told(desk, ("f", "g", "b", None))
        desk.ask("f", "g", "c")
        self.is_told(desk, ("f", "g", "b", "holds"), ("f", "g", "t", "holds"), ("f", "g", "e", None), ("f", "g", "d", None))

    def test_not_not(self):
        twice = ("not", ("not", FIVE))
        desk = desk_with(f=AB, g=FAMILY, c=FIVE, t=twice, n=("not", FIVE), u=("not", ("not", twice)), a=("not", ("and", ("not", FIVE))), b=("not", ("and", FIVE)),
            o=("not", ("or", FIVE)))
        desk.ask("f", "g", "c")
        self.is_told(
            desk, ("f", "g", "t", "holds"), ("f", "g", "u", "holds"), ("f", "g", "n", None), ("f", "g", "a", None), ("f", "g", "b", None),
            ("f", "g", "o", None))

    def test_rules_within_rules(self):
        desk = desk_with(f=AB, g=NARROW, h=FAMILY, c=FIVE, b=("and", ("or", FOUR, ("not", ("not", FIVE))), ("and",)))
        desk.ask("f", "h", "c")
        self.is_told(desk, ("f", "g", "b", "holds"), ("f", "h", "b", "holds"))

    def test_fonts_that_break(self):
        # At 3 the row is 5 wide: 4 is not enough in any FAMILY with this font, for any CLAIM that is not so in it.
        wide = family_for(AB, WIDE_A)
        less = ("not", ("is", "gt", ((((1,), "right"), (1, 1)), (None, (-2, 1)))))
        desk = desk_with(
            f=AB, r=("row", ("row", A), B), o=A, g=FAMILY, n=NARROW, w=wide, x=family_for(AB, WIDE_A, WIDE_B), y=family_for(AB, WIDE_A, deep=2), c=FIVE, d=FOUR, e=less)
        self.assertEqual(desk.take("f", "g", "d", ("broken", (3, 1))), "broken")
        self.is_told(
            desk, ("f", "g", "d", "broken"), ("r", "g", "d", "broken"), ("f", "w", "d", "broken"), ("f", "x", "d", "broken"), ("f", "n", "d", None), ("f", "y", "d", None),
            ("f", "g", "c", None), ("f", "g", "e", "broken"), ("r", "w", "e", "broken"), ("f", "n", "e", None))
        # A font that is one of another FORMULA's FAMILY breaks there, too.
        self.assertEqual(desk.follows("o", "g", "d"), None)
        desk.put("z", ("claim", fits((2, 1))))
        self.is_told(desk, ("o", "g", "z", "broken"), ("o", "n", "z", None))

    def test_cases(self):
        # A claim that is none of a formula, a family that does not serve one: no case.
        only_b = ("is", "ge", ((((2,), "left"), (1, 1)),))
        desk = desk_with(f=AB, o=A, g=FAMILY, h=family_for(A), c=("and",), d=only_b)
        self.assertEqual(desk.open_cases(), (("f", "g", "d"),))
        self.assertEqual(desk.hangs("c"), (("f", "g", "c"), ("o", "g", "c"), ("o", "h", "c")))
        self.assertEqual(desk.hangs("h"), (("o", "h", "c"),))
        self.assertEqual(desk.hangs("d"), ())
        desk.ask("f", "g", "d")
        self.assertEqual(desk.hangs("d"), (("f", "g", "d"),))
        self.assertEqual(desk.open_cases(), ())
        self.assertEqual(desk.hangs("f"), (("f", "g", "c"), ("f", "g", "d")))

    def test_by_chance(self):
        chance = Random(1)
        told = {None: 0, "holds": 0, "broken": 0}
        for _ in range(12):
            formula = some_formula(chance, 2, ("row", "over", "high"))
            formulas = {"fa": formula, "fb": ("row", formula), "fc": some_formula(chance, 2)}
            whole = ("row", *formulas.values())
            base = some_family(chance, whole, 1, 3)
            families = {"ga": base, "gb": (base[0], base[1], base[2][:0]), "gc": (base[0], base[1], base[2] * 2)}
            claims = {"c" + letter: some_claim(chance, formula, 2) for letter in "abcd"}
            claims["ce"] = ("and", claims["ca"], claims["cb"])
            claims["cf"] = ("or", claims["cc"], ("not", ("not", claims["cd"])))
            desk = desk_with(**formulas, **families, **claims)
            cases = desk.open_cases() + desk.hangs("fa") + desk.hangs("fb") + desk.hangs("fc")
            self.assertEqual(len(cases), len(set(cases)))
            for case in chance.sample(sorted(cases), min(len(cases), 8)):
                try:
                    desk.ask(*case)
                except TooGreat:
                    continue
            for case in sorted(cases):
                word = desk.follows(*case)
                told[word] += 1
                self.assertEqual(word, self.told_once_more(desk, *(desk.thing(label)[1] for label in case)))
                self.assertEqual(case in desk.open_cases(), word is None)
                try:
                    if word is not None:
                        self.assertEqual(judge(*(desk.thing(label)[1] for label in case))[0], word)
                except TooGreat:
                    pass
        self.assertGreater(min(told.values()), 20)

    def told_once_more(self, desk, formula, family, claim):
        """Return what follows, as the document tells it."""
        for _, _, own, _, paper in desk.entries():
            if paper[0] == "broken":
                font = family_font(own, paper[1])
                if is_font_of(family, font) and not is_so(formula, font, claim):
                    return "broken"
        return "holds" if self.holds_once_more(desk, formula, family, claim) else None

    def holds_once_more(self, desk, formula, family, claim):
        if is_within(family, (family[0], family[1], (("gt", (0,) * len(family[0]) + (-1, 1)),))):
            return True
        led = led_claim(formula, claim)
        ends = (formula, claim) if led is None else (plain(formula), led)
        for key, _, _, _, paper in desk.entries():
            if paper[0] == "holds" and (key[0], key[2]) == ends and is_within(family, key[1]):
                return True
        if claim[0] == "and":
            return all(self.holds_once_more(desk, formula, family, part) for part in claim[1:])
        if claim[0] == "or":
            return any(self.holds_once_more(desk, formula, family, part) for part in claim[1:])
        return claim[0] == "not" and claim[1][0] == "not" and self.holds_once_more(desk, formula, family, claim[1][1])

    def test_a_full_desk(self):
        chance = Random(2)
        desk = Desk()
        rows = [("row", *(("over", ("sign", "a"), ("sign", "b")) for _ in range(number))) for number in range(1, 14)]
        for number, formula in enumerate(rows):
            desk.put("f" + label_of(number), ("formula", formula))
            system = (("ge", (-1, 1 + number, 1)),)
            desk.put("g" + label_of(number), ("family", family_for(("row", rows[1]), ("wide", "a", 1), system=system)))
        for number in range(14):
            desk.put("c" + label_of(number), ("claim", ("and", fits((10 * number + 3, 1)), ("or", fits((5 * number, 1))))))
        self.assertEqual(len(desk), 40)
        with Within(self, 60):
            cases = desk.open_cases()
        self.assertEqual(len(cases), 13 * 13 * 14)
        for case in chance.sample(cases, 60):
            desk.ask(*case)
        with Within(self, 60):
            left = desk.open_cases()
        with Within(self, 60):
            hanging = [case for number in range(13) for case in desk.hangs("f" + label_of(number))]
        self.assertEqual(sorted([*left, *hanging]), sorted(cases))
        self.assertGreater(len(hanging), 100)


if __name__ == "__main__":
    unittest.main()
