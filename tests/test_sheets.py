import unittest
from random import Random

from chance import family_for, some_claim, some_family, some_formula
from everyfont.claims import apart, fits
from everyfont.desks import Desk
from everyfont.errors import NotClaim, NotFont, NotName, NotText, TooGreat
from everyfont.formulas import words_of
from everyfont.prover import judge
from everyfont.sheets import desk_text, judged, read_desk
from wrong import ANYTHING, Within, deep_tuple, raised

A, B = ("sign", "a"), ("sign", "b")
AB = ("row", A, B)
WIDE_A = ("wide", "a", 0)
FAMILY = ((("space", 0), WIDE_A), ((("deep", "a", 0), (0, 1)), (("high", "a", 0), (3, 2))), (("ge", (0, -1, 3, 1)), ("eq", (1, -2, 0, 3))))
CLAIM = ("and", ("not", ("is", "lt", ((((), "right"), (1, 1)), (None, (-7, 2)), (WIDE_A, (0, 1)), (((1, 0, 2), "base"), (-1, 3))))), ("or",))
FORMULA_LINE = "formula f row 2 sign a sign b"
FAMILY_LINE = "family g 2 space 0 wide a 0 2 deep a 0 0 1 high a 0 3 2 2 ge 0 -1 3 1 eq 1 -2 0 3"
CLAIM_LINE = "claim c and 2 not is lt 4 place 0 right 1 1 one -7 2 name wide a 0 0 1 place 3 1 0 2 base -1 3 or 0"
LINES = (CLAIM_LINE, FORMULA_LINE, FAMILY_LINE)
THINGS = {"c": ("claim", CLAIM), "f": ("formula", AB), "g": ("family", FAMILY)}


def desk_of(things):
    desk = Desk()
    for label, thing in things.items():
        desk.put(label, thing)
    return desk


def things_of(desk):
    return {label: desk.thing(label) for label in desk.labels()}


class ByHand(unittest.TestCase):
    def test_text(self):
        self.assertEqual(desk_text(desk_of(THINGS)), "\n".join(LINES))
        self.assertEqual(desk_text(desk=desk_of(THINGS)), "\n".join(LINES))
        self.assertEqual(desk_text(Desk()), "")
        for label, line in zip("cfg", LINES):
            self.assertEqual(desk_text(desk_of({label: THINGS[label]})), line)
        desk = desk_of(THINGS)
        desk.rename("c", "zz")
        desk.drop("f")
        self.assertEqual(desk_text(desk), FAMILY_LINE + "\n" + CLAIM_LINE.replace("claim c", "claim zz"))

    def test_reading(self):
        for text, things in (("", {}), ("\n".join(LINES), THINGS), ("\n".join(reversed(LINES)), THINGS), (FAMILY_LINE, {"g": THINGS["g"]})):
            desk = read_desk(text)
            self.assertIsInstance(desk, Desk)
            self.assertEqual(things_of(desk), things)
            self.assertEqual((desk.acts, desk.entries(), len(desk)), (0, (), len(things)))
            self.assertEqual(read_desk(text=text), desk)
        self.assertEqual(read_desk(""), Desk())
        # The acts differ.
        self.assertNotEqual(read_desk(FORMULA_LINE), desk_of({"f": THINGS["f"]}))

    def test_reading_is_no_edit(self):
        desk = read_desk("\n".join(LINES))
        self.assertRaises(Exception, desk.undo)
        self.assertRaises(Exception, desk.redo)
        desk.drop("f")
        desk.undo()
        self.assertEqual(desk, read_desk("\n".join(LINES)))

    def test_a_label_that_comes_again(self):
        desk = read_desk("formula f sign a\nformula f sign b")
        self.assertEqual(things_of(desk), {"f": ("formula", B)})
        desk = read_desk("\n".join((FORMULA_LINE, CLAIM_LINE.replace("claim c", "claim f"))))
        self.assertEqual(things_of(desk), {"f": ("claim", CLAIM)})

    def test_small_things(self):
        for line, thing in (
                ("formula a sign b", ("formula", B)), ("family a 0 0 0", ("family", ((), (), ()))), ("claim a and 0", ("claim", ("and",))), ("claim a or 0", ("claim", ("or",))),
                ("claim a is eq 0", ("claim", ("is", "eq", ()))), ("claim a is ne 1 one 0 1", ("claim", ("is", "ne", ((None, (0, 1)),)))),
                ("claim a not or 0", ("claim", ("not", ("or",)))), ("claim a is ge 1 place 1 60 top 5 1", ("claim", ("is", "ge", ((((60,), "top"), (5, 1)),)))),
                ("family a 0 0 1 ge 5 1", ("family", ((), (), (("ge", (5, 1)),)))), ("family a 0 0 2 gt 0 1 eq -3 2", ("family", ((), (), (("gt", (0, 1)), ("eq", (-3, 2)))))),
                ("family family 1 gap 7 0 0", ("family", ((("gap", 7),), (), ()))), ("formula holds sign not", ("formula", ("sign", "not")))):
            label = line.split(" ")[1]
            self.assertEqual(things_of(read_desk(line)), {label: thing})
            self.assertEqual(desk_text(read_desk(line)), line)

    def test_great_numbers(self):
        great, greater = 10 ** 999, 10 ** 1000
        for line, number in (
                ("claim a is eq 1 one {} 1", 6), ("claim a is eq 1 one -{} 1", 6), ("claim a is eq 1 one 1 {}", 7), ("family a 0 1 gap 0 {} 1 0", 6), ("family a 0 1 gap 0 1 {} 0", 7),
                ("family a 0 0 1 ge -{} 1", 6), ("family a 0 0 1 ge 1 {}", 7)):
            self.assertEqual(desk_text(read_desk(line.format(great))), line.format(great))
            wrong = raised(self, NotText, read_desk, line.format(greater))
            self.assertEqual((wrong.line, wrong.word), (0, number))


class Refused(unittest.TestCase):
    def is_refused(self, text, line, word):
        """Hold where a text is refused against what was told; it may stand alone or with "holds" lines behind it."""
        with self.subTest(text[:200]):
            wrong = raised(self, NotText, read_desk, text)
            self.assertEqual((wrong.line, wrong.word), (line, word))
            wrong = raised(self, NotText, judged, text)
            self.assertEqual((wrong.line, wrong.word), (line, word))

    def test_no_string(self):
        for value in ANYTHING + (deep_tuple(100),):
            if not isinstance(value, str):
                for function in (read_desk, judged):
                    wrong = raised(self, NotText, function, value)
                    self.assertEqual((wrong.line, wrong.word), (None, None))

    def test_empty_words(self):
        for text, line, word in (
                ("\n", 0, 0), (" ", 0, 0), (FORMULA_LINE + "\n", 1, 0), ("\n" + FORMULA_LINE, 0, 0), (FORMULA_LINE + "\n\n" + CLAIM_LINE, 1, 0), (" " + FORMULA_LINE, 0, 0),
                (FORMULA_LINE + " ", 0, 8), ("formula  f sign a", 0, 1), ("formula f  sign a", 0, 2), ("formula f sign  a", 0, 3), ("formula f sign a\nfamily g  0 0 0", 1, 2)):
            self.is_refused(text, line, word)

    def test_first_words_and_labels(self):
        for text, word in (
                ("form f sign a", 0), ("Formula f sign a", 0), ("sign a", 0), ("f", 0), ("formula", 1), ("formula f", 2), ("formula F sign a", 1), ("formula abcdefghi sign a", 1),
                ("formula 1 sign a", 1), ("family", 1), ("family g", 2), ("claim", 1), ("claim c", 2), ("claim \u00e4 and 0", 1), ("formula\tf sign a", 0), ("formula f\tsign a", 1)):
            self.is_refused(text, 0, word)
            self.is_refused(FORMULA_LINE + "\n" + FAMILY_LINE + "\n" + text, 2, word)

    def test_words_that_lack(self):
        for line in LINES:
            words = line.split(" ")
            for many in range(1, len(words)):
                self.is_refused(" ".join(words[:many]), 0, many)
            self.is_refused(line + " 0", 0, len(words))
            self.is_refused(line + "\n" + line + " a", 1, len(words))

    def test_words_that_cannot_stand(self):
        # None of these can stand anywhere.
        for line in LINES:
            words = line.split(" ")
            for number in range(len(words)):
                for wrong in ("", "A", "-0", "00", "+1", "1.0", "01", "\u0661", "\u00e4", "--1", "-", "0x1", "1_0", "abcdefghi"):
                    self.is_refused(" ".join(words[:number] + [wrong] + words[number + 1:]), 0, number)

    def test_families(self):
        for text, word in (
                ("family g 13", 2), ("family g -1", 2), ("family g 12", 3), ("family g 2 wide a 0 wide a 0 0 0", 8), ("family g 2 wide b 0 wide a 7 0 0", 8), ("family g 2 gap 1 gap 0 0 0", 6),
                ("family g 2 gap 1 axis 7 0 0", 6), ("family g 3 gap 0 gap 2 gap 1 0 0", 8), ("family g 1 gap 8 0 0", 4), ("family g 1 gap a 0 0", 4), ("family g 1 wide 0 0 0", 4), ("family g 1 none 0 0 0", 3),
                ("family g 0 -1", 3), ("family g 0 1 gap 0 0 1 0", 6), ("family g 0 1 gap 0 -1 1 0", 6), ("family g 0 1 deep a 0 -1 1 0", 7), ("family g 0 1 space 0 -5 1 0", 6),
                ("family g 0 1 gap 0 1 0 0", 7), ("family g 0 1 gap 0 1 -1 0", 7), ("family g 0 1 gap 0 2 4 0", 7), ("family g 0 1 space 0 0 2 0", 7), ("family g 0 1 space 0 0 1 0 0", 9),
                ("family g 0 2 gap 0 1 1 gap 0 1 1 0", 9), ("family g 0 2 gap 1 1 1 gap 0 1 1 0", 9), ("family g 0 2 gap 1 1 1 axis 3 1 1 0", 9), ("family g 0 3 gap 0 1 1 gap 2 1 1 gap 1 1 1 0", 13),
                ("family g 1 gap 0 1 gap 0 1 1 0", 7), ("family g 1 gap 0 2 axis 0 1 1 gap 0 1 1 0", 11), ("family g 1 gap 0 2 gap 1 1 1 gap 0 1 1 0", 11), ("family g 0 0 41", 4), ("family g 0 0 -1", 4),
                ("family g 0 0 1 ne 1 1", 5), ("family g 0 0 1 ge 1 0", 7), ("family g 0 0 1 ge 1 -1", 7), ("family g 0 0 1 ge 2 2", 7), ("family g 0 0 1 ge 0 2", 7), ("family g 0 0 1 ge 0 1 1", 8),
                ("family g 1 gap 0 0 1 ge 2 4 2", 10), ("family g 1 gap 0 0 1 ge 0 0 2", 10), ("family g 1 gap 0 0 1 ge 2 4 1 0", 11), ("family g 1 gap 0 0 1 ge 3 a 1", 9)):
            self.is_refused(text, 0, word)
        self.assertEqual(len(read_desk("family g 1 gap 0 2 axis 0 1 1 gap 1 1 1 1 eq 0 0 1").thing("g")[1][1]), 2)

    def test_names_out_of_their_order(self):
        # There is no NAME behind this one: it can stand, but the next one, which is not greater, cannot.
        self.is_refused("family g 2 wide zzzzzzzz 7", 0, 6)
        self.is_refused("family g 12 wide zzzzzzzz 7", 0, 6)
        self.is_refused("family g 2 wide zzzzzzzz 7 0 0", 0, 6)
        self.is_refused("family g 2 wide zzzzzzzz 7 gap 0 0 0", 0, 7)
        self.is_refused("family g 2 wide zzzzzzzz 7 wide zzzzzzzz 7 0 0", 0, 8)
        self.is_refused("family g 2 wide zzzzzzzz 7 wide zzzzzzzz 8 0 0", 0, 8)
        self.is_refused("family g 2 wide zzzzzzzz 7 wide zzzzzzzz", 0, 8)
        self.is_refused("family g 4 wide zzzzzzzz 5 wide zzzzzzzz 6 wide zzzzzzzz 7 wide zzzzzzzz 7 0 0", 0, 14)
        self.assertEqual(len(read_desk("family g 3 wide zzzzzzzz 5 wide zzzzzzzz 6 wide zzzzzzzz 7 0 0").thing("g")[1][0]), 3)
        self.is_refused("family g 0 2 wide zzzzzzzz 7 1 1 gap 0 1 1 0", 0, 10)
        self.is_refused("family g 0 2 wide zzzzzzzz 7 1 1 wide zzzzzzzz 7 1 1 0", 0, 11)
        self.is_refused("family g 0 2 wide zzzzzzzz 7 1 1", 0, 9)
        self.is_refused("family g 0 2 wide zzzzzzzz 7 1 1 0", 0, 9)
        self.is_refused("family g 1 wide zzzzzzzz 7 2 wide zzzzzzzz 6 1 1", 0, 12)
        self.is_refused("family g 1 wide zzzzzzzz 7 2 wide zzzzzzzz 6 1 1 wide zzzzzzzz 7 1 1 0", 0, 14)
        self.assertEqual(len(read_desk("family g 1 wide zzzzzzzz 6 2 wide zzzzzzzz 5 1 1 wide zzzzzzzz 7 1 1 0").thing("g")[1][1]), 2)

    def test_fixed_unknowns(self):
        for level in range(3):
            self.is_refused("family g 3 gap 0 gap 1 gap 2 1 gap {} 1 1 0".format(level), 0, 11)
            self.is_refused("family g 3 wide a 0 wide a 1 wide a 2 2 axis 0 1 1 wide a {} 1 1 0".format(level), 0, 19)
        self.assertEqual(len(read_desk("family g 3 gap 0 gap 1 gap 2 1 gap 3 1 1 0").thing("g")[1][1]), 1)

    def test_many_fixed_pairs(self):
        # More than there are NAMES, and still an integer that can stand.
        for many in ("2", "5428774286352", "9" * 1000, "1" + "0" * 999):
            self.is_refused("family g 0 " + many, 0, 4)
            self.is_refused("family g 0 " + many + " 0", 0, 4)
            self.is_refused("family g 1 gap 0 " + many, 0, 6)
            self.is_refused("family g 0 " + many + " gap 0 1 1", 0, 8)
            self.is_refused("family g 0 " + many + " gap 0 1 1 gap 0", 0, 9)
            self.is_refused("family g 0 " + many + " gap 0 1 1 wide zzzzzzzz 7 1 1", 0, 13)
        for many in ("1" + "0" * 1000, "-1", "-" + "9" * 1000, "-0", "02"):
            self.is_refused("family g 0 " + many, 0, 3)
            self.is_refused("family g 0 " + many + " gap 0 1 1 0", 0, 3)

    def test_formulas(self):
        deep = "formula f " + "bar " * 7
        self.assertEqual(read_desk(deep + "sign a").thing("f")[0], "formula")
        self.is_refused(deep + "bar sign a", 0, 9)
        self.is_refused("formula f row 60" + " sign a" * 60, 0, 3)
        self.is_refused("formula f high row 1 sign a sign b", 0, 3)
        self.is_refused("formula f sign a sign b", 0, 4)
        self.is_refused("formula f row 0", 0, 3)

    def test_claims(self):
        for text, word in (
                ("claim c nor 0", 2), ("claim c is xx 0", 3), ("claim c is", 3), ("claim c is eq", 4), ("claim c is eq 61", 4), ("claim c is eq -1", 4), ("claim c is eq 60", 5),
                ("claim c is eq 1 two 1 1", 5), ("claim c is eq 1 place -1 left 1 1", 6), ("claim c is eq 1 place 1 61 left 1 1", 7), ("claim c is eq 1 place 1 -1 left 1 1", 7),
                ("claim c is eq 1 place 0 middle 1 1", 7), ("claim c is eq 1 place 0 0 left 1 1", 7), ("claim c is eq 1 name wide a 8 1 1", 8), ("claim c is eq 1 name a 0 1 1", 6),
                ("claim c is eq 1 name gap 0 1 0", 9), ("claim c is eq 1 one 2 2", 7), ("claim c is eq 1 one 0 2", 7), ("claim c is eq 1 one 1 1 one 1 1", 8), ("claim c and -1", 3),
                ("claim c and 60", 3), ("claim c or 1" + "0" * 998, 3), ("claim c and 59", 4), ("claim c and 1 and 59", 5), ("claim c and 1 and 58", 6), ("claim c not", 3), ("claim c and 0 0", 4)):
            self.is_refused(text, 0, word)
        many = "claim c is eq 60" + " one 1 1" * 60
        self.assertEqual(len(read_desk(many).thing("c")[1][2]), 60)
        self.assertEqual(desk_text(read_desk(many)), many)
        long = "claim c is eq 1 place 200" + " 60" * 200 + " left 1 1"
        self.assertEqual(desk_text(read_desk(long)), long)

    def test_how_deep_claims_may_be(self):
        nots = "claim c" + " not" * 7
        self.assertEqual(desk_text(read_desk(nots + " and 0")), nots + " and 0")
        self.assertEqual(desk_text(read_desk(nots + " is eq 0")), nots + " is eq 0")
        self.is_refused(nots + " not and 0", 0, 9)
        self.is_refused(nots + " and 1 and 0", 0, 10)
        self.is_refused(nots + " or 1", 0, 10)
        ands = "claim c" + " and 1" * 7
        self.assertEqual(desk_text(read_desk(ands + " or 0")), ands + " or 0")
        self.is_refused(ands + " or 1 or 0", 0, 17)

    def test_how_many_words_claims_may_have(self):
        whole = "claim c and 59" + " or 0" * 59
        self.assertEqual(desk_text(read_desk(whole)), whole)
        # A "not", a number of parts that do not fit in.
        self.is_refused("claim c and 59" + " or 0" * 58 + " not or 0", 0, 4 + 116)
        self.is_refused("claim c and 59 not or 0", 0, 4)
        self.is_refused("claim c and 59 or 1", 0, 5)
        self.is_refused("claim c and 58 or 2", 0, 5)
        self.assertEqual(desk_text(read_desk("claim c and 58 or 1 or 0" + " and 0" * 57)), "claim c and 58 or 1 or 0" + " and 0" * 57)
        self.is_refused("claim c and 58 or 1 not or 0", 0, 6)

    def test_a_forty_first_label(self):
        labels = ["l" + letter + other for letter in "abcd" for other in "abcdefghij"]
        lines = ["formula {} sign a".format(label) for label in labels]
        self.assertEqual(read_desk("\n".join(lines)).labels(), tuple(labels))
        self.is_refused("\n".join(lines + ["formula m sign a"]), 40, 1)
        self.is_refused("\n".join(lines + ["formula m"]), 40, 1)
        self.assertEqual(read_desk("\n".join(lines + ["formula laa sign b"])).thing("laa"), ("formula", B))
        self.is_refused("\n".join(lines + ["formula laa sign b", "claim z and 0"]), 41, 1)

    def test_the_first_line_counts(self):
        self.is_refused("formula f sign a b\nclaim", 0, 4)
        self.is_refused("formula f sign a\nclaim\nform", 1, 1)

    def test_holds_lines_in_desks(self):
        for line in ("holds f g c", "not holds f g c", "holds", "not", "not holds"):
            for ahead in (0, 1, 3):
                wrong = raised(self, NotText, read_desk, "\n".join(LINES[:ahead] + (line,)))
                self.assertEqual((wrong.line, wrong.word), (ahead, 0))


HALF = ("over", A, B)
SHEET = "\n".join((
    "formula f over sign a sign b", "formula r row 1 over sign a sign b",
    "family g 1 wide a 1 9 axis 0 1 1 deep a 1 1 1 deep b 1 1 1 fall 0 1 1 gap 0 1 1 high a 1 1 1 high b 1 1 1 rise 0 1 1 rule 0 1 1 0",
    "family h 2 wide a 1 wide b 1 9 axis 0 1 1 deep a 1 1 1 deep b 1 1 1 fall 0 1 1 gap 0 1 1 high a 1 1 1 high b 1 1 1 rise 0 1 1 rule 0 1 1 1 ge -1 0 3 1",
    "family i 2 wide a 1 wide b 1 9 axis 0 1 1 deep a 1 1 1 deep b 1 1 1 fall 0 1 1 gap 0 1 1 high a 1 1 1 high b 1 1 1 rise 0 1 1 rule 0 1 1 2 ge -1 0 3 1 ge 0 -1 5 1",
    "claim c is le 2 place 0 right 1 1 one -7 1", "claim d is le 2 place 0 right 1 1 one -6 1", "claim e is gt 1 place 1 3 left 1 1"))


class Judged(unittest.TestCase):
    def test_answers(self):
        for lines, told in (
                ("", ()), ("\nholds f i c", (True,)), ("\nnot holds f i c", (False,)), ("\nholds f i d", (False,)), ("\nnot holds f i d", (True,)),
                ("\nholds f h c\nholds r i c\nnot holds f h c\nholds f i c\nholds f i c", (False, True, True, True, True))):
            self.assertEqual(judged(SHEET + lines), told)
            self.assertEqual(judged(text=SHEET + lines), told)
        self.assertEqual(judged(""), ())
        self.assertEqual([type(one) for one in judged(SHEET + "\nholds f i c\nnot holds f i c")], [bool, bool])

    def test_the_last_thing_of_a_label(self):
        again = SHEET + "\nclaim c is le 2 place 0 right 1 1 one -6 1\nholds f i c"
        self.assertEqual(judged(again), (False,))

    def test_texts_that_are_refused(self):
        many = SHEET.count("\n") + 1
        for lines, line, word in (
                ("\nholds", 0, 1), ("\nholds f", 0, 2), ("\nholds f i", 0, 3), ("\nholds f i c c", 0, 4), ("\nnot", 0, 1), ("\nnot holds", 0, 2), ("\nnot holds f i", 0, 4),
                ("\nnot holds f i c c", 0, 5), ("\nnot not holds f i c", 0, 1), ("\nnot f i c", 0, 1), ("\nholds F i c", 0, 1), ("\nholds f abcdefghi c", 0, 2), ("\nholds f i 0", 0, 3),
                ("\nholds f  i c", 0, 2), ("\nholds f i c ", 0, 4), ("\nholds f i c\n", 1, 0), ("\nholds f i c\nformula f sign a", 1, 0), ("\nholds f i c\nclaim", 1, 0),
                ("\nnot holds f i c\nfamily", 1, 0), ("\nholds f i c\nhold f i c", 1, 0), ("\nholds x y z\nholds", 1, 1), ("\nholds f i c\nnot holds f i c\nnot", 2, 1)):
            with self.subTest(lines):
                wrong = raised(self, NotText, judged, SHEET + lines)
                self.assertEqual((wrong.line, wrong.word), (many + line, word))

    def test_what_is_no_case(self):
        for lines, kind, value in (
                ("\nholds x y z", NotName, "x"), ("\nholds f y z", NotName, "y"), ("\nholds f i z", NotName, "z"), ("\nholds i f z", NotName, "z"), ("\nholds i f c", NotName, "i"),
                ("\nholds f c i", NotName, "c"), ("\nholds f i f", NotName, "f"), ("\nholds f g e", NotFont, ("wide", "b", 1)), ("\nnot holds f i e", NotClaim, (2, 0)),
                ("\nholds f i c\nholds x x x", NotName, "x"), ("\nholds f i e\nholds x x x", NotClaim, (2, 0)), ("\nholds f g c\nholds f i e", NotFont, ("wide", "b", 1))):
            with self.subTest(lines):
                wrong = raised(self, kind, judged, SHEET + lines)
                self.assertEqual(wrong.path if kind is NotClaim else wrong.name, value)

    def test_what_is_too_great(self):
        pairs = " ".join("is ne 1 one {} 1".format(number) for number in range(1, 8))
        sheet = SHEET + "\nclaim m not and 7 " + pairs
        self.assertEqual(raised(self, TooGreat, judged, sheet + "\nholds f i c\nholds f i m").most, 64)
        # What is no case in a later line counts ahead of it.
        self.assertEqual(raised(self, NotName, judged, sheet + "\nholds f i m\nholds f i x").name, "x")
        rows = ("row", *(("high", ("sign", letter), ("sign", letter)) for letter in "abcdefgh"))
        family = family_for(rows, *[("high", letter, 0) for letter in "abcdefgh"], *[("high", letter, 1) for letter in "abcd"])
        text = desk_text(desk_of({"v": ("formula", rows), "w": ("family", family)}))
        self.assertEqual(raised(self, TooGreat, judged, sheet + "\n" + text + "\nholds v w m").most, 14)
        self.assertEqual(raised(self, TooGreat, judged, sheet + "\n" + text + "\nholds f i m\nholds v w m").most, 64)
        self.assertEqual(raised(self, TooGreat, judged, sheet + "\n" + text + "\nnot holds v w m\nholds f i m").most, 14)


class ByChance(unittest.TestCase):
    def test_there_and_back(self):
        chance = Random(1)
        for _ in range(150):
            desk = Desk()
            for number in range(chance.randint(0, 6)):
                formula = some_formula(chance, chance.randint(1, 4))
                if words_of(formula) > 60:
                    continue
                things = (
                    ("formula", formula), ("family", some_family(chance, formula, chance.randint(0, 5))), ("claim", some_claim(chance, formula, 3)),
                    ("claim", ("not", apart((1,), (2,)))), ("claim", fits((7, 2))))
                desk.put(chance.choice("abcdefgh") * chance.randint(1, 8), chance.choice(things))
            text = desk_text(desk)
            found = read_desk(text)
            self.assertEqual(things_of(found), things_of(desk))
            self.assertEqual(desk_text(found), text)
            self.assertEqual([line.split(" ")[1] for line in text.split("\n") if line], list(desk.labels()))
            # No text goes on behind another one's words, and none is a part of another one.
            words = text.split("\n")[0].split(" ")
            for many in range(1, len(words)):
                wrong = raised(self, NotText, read_desk, " ".join(words[:many]))
                self.assertEqual((wrong.line, wrong.word), (0, many))

    def test_judged(self):
        chance = Random(2)
        told = {True: 0, False: 0}
        for _ in range(40):
            formula = some_formula(chance, 2)
            desk = desk_of({
                "f": ("formula", formula), "g": ("family", some_family(chance, formula, 2, 4)), "c": ("claim", some_claim(chance, formula, 2)),
                "d": ("claim", some_claim(chance, formula, 2))})
            text = desk_text(desk) + "\nholds f g c\nnot holds f g d"
            try:
                found = judged(text)
            except TooGreat:
                continue
            words = [judge(formula, desk.thing("g")[1], desk.thing(label)[1])[0] for label in "cd"]
            self.assertEqual(found, (words[0] == "holds", words[1] == "broken"))
            for one in found:
                told[one] += 1
        self.assertGreater(min(told.values()), 10)

    def test_the_longest_texts(self):
        names = " ".join("wide {} 0".format("abcdefghijkl"[number]) for number in range(12))
        row = "-" + "9" * 1000
        line = "family {} 12 " + names + " 0 40" + (" ge " + " ".join([row] * 13) + " 1") * 40
        with Within(self, 20):
            desk = read_desk("\n".join(line.format("abcdefghij"[number]) for number in range(3)))
        with Within(self, 20):
            self.assertEqual(desk_text(desk).count("\n"), 2)
        with Within(self, 20):
            wrong = raised(self, NotText, read_desk, "claim c is eq 1 place 1" + "0" * 999 + " 60" * 100000)
        self.assertEqual((wrong.line, wrong.word), (0, 7 + 100000))


if __name__ == "__main__":
    unittest.main()
