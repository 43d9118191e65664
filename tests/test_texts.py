import unittest
from random import Random

from chance import some_font, some_formula
from everyfont.errors import NotFormula, NotText
from everyfont.fonts import check_font, needed
from everyfont.formulas import check_formula, words_of
from everyfont.texts import font_text, formula_text, read_font, read_formula
from wrong import ANYTHING, raised

A, B, C, D = ("sign", "a"), ("sign", "b"), ("sign", "c"), ("sign", "d")
TEXTS = {
    "sign a": A,
    "sign abcdefgh": ("sign", "abcdefgh"),
    "sign sign": ("sign", "sign"),
    "row 1 sign a": ("row", A),
    "row 3 sign a sign b sign c": ("row", A, B, C),
    "over sign a sign b": ("over", A, B),
    "root sign a": ("root", A),
    "high sign a sign b": ("high", A, B),
    "low sign a sign b": ("low", A, B),
    "both sign a sign b sign c": ("both", A, B, C),
    "under lim sign a": ("under", "lim", A),
    "upper row sign a": ("upper", "row", A),
    "limits sum sign a sign b": ("limits", "sum", A, B),
    "fence sign a": ("fence", A),
    "bar sign a": ("bar", A),
    "table 1 1 sign a": ("table", ((A,),)),
    "table 2 1 sign a sign b": ("table", ((A,), (B,))),
    "table 1 2 sign a sign b": ("table", ((A, B),)),
    "table 2 2 sign a sign b sign c sign d": ("table", ((A, B), (C, D))),
    "row 2 over sign a row 1 sign b high root row 2 sign a sign b table 1 1 sign c": (
        "row", ("over", A, ("row", B)), ("high", ("root", ("row", A, B)), ("table", ((C,),)))),
}
NO_STRINGS = tuple(value for value in ANYTHING if not isinstance(value, str)) + (b"sign a", ["sign", "a"], A)


def deep(depth):
    """Return the text of a FORMULA so deep."""
    return "root " * (depth - 1) + "sign a"


def completed(words, depth=1, base=False):
    """Return the least FORMULA whose text begins with a list's words, which are taken from it; None if there is none.

    The limits of words and depth are left to check_formula.
    """
    def word():
        return words.pop(0) if words else None

    def number():
        told = word()
        if told is None:
            return 1
        return int(told) if told.isdecimal() and str(int(told)) == told and 0 < int(told) < 100 else None

    def letters():
        told = word()
        return "a" if told is None else told

    def parts(many):
        found = [completed(words, depth + 1) for _ in range(many)]
        return None if None in found else tuple(found)

    kind = "sign" if not words else word()
    if depth > 70:
        return None
    if kind == "row":
        many = number()
        found = many and parts(many)
        return found and ("row", *found)
    if kind == "table":
        rows = number()
        columns = rows and number()
        cells = columns and parts(rows * columns)
        return cells and ("table", tuple(cells[k:k + columns] for k in range(0, len(cells), columns)))
    named = {"sign": 0, "under": 1, "upper": 1, "limits": 2}
    plain = {"over": 2, "root": 1, "high": 2, "low": 2, "both": 3, "fence": 1, "bar": 1}
    if kind in named:
        sign = letters()
        found = parts(named[kind])
        return None if found is None else (kind, sign, *found)
    if kind in plain:
        found = parts(plain[kind])
        return found and (kind, *found)
    return None


def first_wrong_word(text):
    """Return the number of the first word that cannot stand, found by completing what is ahead; None if all can."""
    words = text.split(" ")
    for many in range(1, len(words) + 1):
        left = words[:many]
        formula = completed(left)
        try:
            if formula is None or left:
                return many - 1
            check_formula(formula)
        except NotFormula:
            return many - 1
    return None if formula_text(formula) == text else len(words)


class FormulaText(unittest.TestCase):
    def test_by_hand(self):
        for text, formula in TEXTS.items():
            with self.subTest(text):
                self.assertEqual(formula_text(formula), text)
                self.assertEqual(read_formula(text), formula)
        self.assertEqual(formula_text(formula=A), "sign a")
        self.assertEqual(read_formula(text="sign a"), A)

    def test_there_and_back(self):
        chance = Random(1)
        for _ in range(200):
            formula = some_formula(chance, chance.randint(1, 7))
            if words_of(formula) <= 60:
                self.assertEqual(read_formula(formula_text(formula)), formula)

    def test_limits(self):
        row = ("row",) + (A,) * 59
        self.assertEqual(formula_text(row), "row 59" + " sign a" * 59)
        self.assertEqual(read_formula(formula_text(row)), row)
        table = ("row", A, ("table", ((A,) * 19,) * 3))
        self.assertEqual(words_of(table), 60)
        self.assertEqual(read_formula(formula_text(table)), table)
        self.assertEqual(formula_text(read_formula(deep(8))), deep(8))


class ReadFormula(unittest.TestCase):
    def refuses(self, text, word):
        with self.subTest(text):
            error = raised(self, NotText, read_formula, text)
            self.assertEqual((error.line, error.word), (0, word))

    def test_no_string(self):
        for value in NO_STRINGS:
            with self.subTest(value):
                error = raised(self, NotText, read_formula, value)
                self.assertEqual((error.line, error.word), (None, None))

    def test_empty_words(self):
        self.refuses("", 0)
        self.refuses(" ", 0)
        self.refuses(" sign a", 0)
        self.refuses("sign  a", 1)
        self.refuses("sign ", 1)
        self.refuses("sign a ", 2)
        self.refuses("sign a  ", 2)
        self.refuses("row  1 sign a", 1)
        self.refuses("row 1  sign a", 2)
        self.refuses("over sign a ", 3)

    def test_words_that_lack(self):
        for text, formula in TEXTS.items():
            words = text.split(" ")
            for many in range(1, len(words)):
                self.refuses(" ".join(words[:many]), many)

    def test_words_too_many(self):
        for text in TEXTS:
            many = len(text.split(" "))
            self.refuses(text + " sign a", many)
            self.refuses(text + " a b c", many)
            self.refuses(text + " ", many)

    def test_no_such_words(self):
        for word in ("Sign", "a", "signs", "1", "0", "sig n", "sign\n", "sign\ta", "\nsign", "\u00a0sign", "None", "()", "is"):
            self.refuses(word + " sign a", 0)
            self.refuses("over sign a " + word + " a", 3)

    def test_signs(self):
        for sign in ("A", "abcdefghi", "1", "a1", "\u00e4", "a\n", "a\tb", "-", "a.b", "z{", "`", "\u0430", "\n"):
            self.refuses("sign " + sign, 1)
            self.refuses("under " + sign + " sign a", 1)
            self.refuses("row 2 sign a limits " + sign, 5)

    def test_line_feeds_are_no_blanks(self):
        self.refuses("sign\na", 0)
        self.refuses("sign a\n", 1)
        self.refuses("row 1\nsign a", 1)

    def test_numbers(self):
        for number in ("0", "-1", "-0", "01", "1.0", "+1", "one", "\u0661", "\u00b2", "60", "61", "1000", "9" * 5000, "0x1", "1_0", "-", "--1"):
            self.refuses("row " + number, 1)
            self.refuses("row " + number + " sign a", 1)
            self.refuses("table " + number + " 1 sign a", 1)
            self.refuses("table 1 " + number + " sign a", 2)

    def test_bases(self):
        for word in ("high", "low", "both"):
            for base in ("row", "high", "low", "both"):
                self.refuses(word + " " + base + " 1 sign a", 1)
                self.refuses("root " + word + " " + base, 2)
                self.assertEqual(read_formula(word + " root sign a" + " sign b" * (2 if word == "both" else 1))[1], ("root", A))
            self.assertTrue(read_formula(word + " sign a" + " row 1 sign b" * (2 if word == "both" else 1)))

    def test_depth(self):
        self.refuses(deep(9), 7)
        self.refuses("root " * 7 + "root", 7)
        for word in ("row", "over", "root", "high", "low", "both", "under", "upper", "limits", "fence", "bar", "table"):
            self.refuses("fence " * 7 + word + " 1", 7)
            self.refuses("fence " * 7 + word, 7)
        self.refuses("over sign a " + "bar " * 7 + "sign a", 9)
        self.refuses("table 1 2 sign a " + deep(8), 11)
        self.assertEqual(read_formula("over sign a " + deep(7))[1], A)

    def test_words_of_the_formula(self):
        self.refuses("row 59 sign a root sign a", 4)
        self.refuses("row 58 sign a over", 4)
        self.refuses("row 58 sign a row 2", 5)
        self.refuses("row 58 row 1 under", 4)
        self.refuses("row 57 limits a sign a sign b root", 8)
        self.refuses("row 57 both", 2)
        self.refuses("table 59 2", 2)
        self.refuses("table 60 1", 1)
        self.refuses("table 6 10", 2)
        self.refuses("table 2 30", 2)
        self.refuses("table 7 9", 2)
        self.refuses("over row 58", 2)
        self.refuses("over row 57 root", 3)
        self.refuses("row 2 table 29 2", 4)
        self.refuses("row 4 table 8 7", 4)

    def test_words_of_the_formula_that_just_fit(self):
        for text in ("row 58 root sign a" + " sign b" * 57, "table 59 1" + " sign a" * 59, "table 1 59" + " sign a" * 59,
                     "row 3 table 8 7" + " sign a" * 58, "over row 57" + " sign a" * 58, "row 57 over sign a sign b" + " sign c" * 56):
            with self.subTest(text):
                self.assertEqual(words_of(read_formula(text)), 60)
                self.assertEqual(formula_text(read_formula(text)), text)

    def test_against_completing(self):
        chance = Random(2)
        words = ["", "a", "sign", "row", "over", "root", "high", "low", "both", "under", "limits", "table", "0", "1", "2", "7", "31", "58", "59",
                 "60", "-0", "01", "A"]
        for text in list(TEXTS) + ["row 58 root sign a" + " sign b" * 57, "table 8 7" + " sign a" * 56, deep(8)]:
            self.assertIsNone(first_wrong_word(text))
            for _ in range(25):
                changed = text.split(" ")
                for _ in range(chance.randint(1, 2)):
                    place = chance.randrange(len(changed) + 1)
                    changed[place:place + chance.randint(0, 2)] = [chance.choice(words) for _ in range(chance.randint(0, 2))]
                changed = " ".join(changed)
                word = first_wrong_word(changed)
                if word is None:
                    self.assertEqual(formula_text(read_formula(changed)), changed)
                else:
                    self.refuses(changed, word)


FONT = (
    (("axis", 0), (1, 4)), (("deep", "a", 0), (0, 1)), (("deep", "a", 7), (5, 1)), (("gap", 3), (-7, 12)),
    (("wide", "abcdefgh", 0), (10 ** 999, 7)))
FONT_TEXT = f"axis 0 1 4\ndeep a 0 0 1\ndeep a 7 5 1\ngap 3 -7 12\nwide abcdefgh 0 {10 ** 999} 7"


class FontText(unittest.TestCase):
    def test_by_hand(self):
        self.assertEqual(font_text(FONT), FONT_TEXT)
        self.assertEqual(read_font(FONT_TEXT), FONT)
        self.assertEqual(font_text(()), "")
        self.assertEqual(read_font(""), ())
        self.assertEqual(font_text(font=FONT[:1]), "axis 0 1 4")
        self.assertEqual(read_font(text="axis 0 1 4"), FONT[:1])

    def test_each_word(self):
        for word in ("axis", "fall", "gap", "rise", "rule", "space"):
            self.assertEqual(read_font(word + " 7 3 2"), (((word, 7), (3, 2)),))
        for word in ("deep", "high", "wide"):
            self.assertEqual(read_font(word + " axis 7 3 2"), (((word, "axis", 7), (3, 2)),))

    def test_there_and_back(self):
        chance = Random(3)
        for _ in range(60):
            formula = some_formula(chance, 5)
            font = some_font(chance, needed(formula), chance.random() < 0.5)
            self.assertEqual(check_font(read_font(font_text(font))), font)

    def test_a_long_font(self):
        names = [("wide", first + second, level) for first in "abcdefghij" for second in "klmnopqrst" for level in range(8)]
        font = some_font(Random(4), names)
        self.assertEqual(read_font(font_text(font)), font)

    def test_integers_of_1000_digits(self):
        long = int("9" * 1000)
        for number in ((long, 1), (-long, 1), (1, long), (long - 1, long), (1 - long, long)):
            font = ((("gap", 0), number),)
            self.assertEqual(read_font(font_text(font)), font)


class ReadFont(unittest.TestCase):
    def refuses(self, text, line, word):
        with self.subTest(text):
            error = raised(self, NotText, read_font, text)
            self.assertEqual((error.line, error.word), (line, word))

    def test_no_string(self):
        for value in NO_STRINGS + (FONT,):
            with self.subTest(value):
                error = raised(self, NotText, read_font, value)
                self.assertEqual((error.line, error.word), (None, None))

    def test_empty_words_and_lines(self):
        self.refuses(" ", 0, 0)
        self.refuses("\n", 0, 0)
        self.refuses("\naxis 0 1 4", 0, 0)
        self.refuses("axis 0 1 4\n", 1, 0)
        self.refuses("axis 0 1 4\n\ngap 0 1 4", 1, 0)
        self.refuses(" axis 0 1 4", 0, 0)
        self.refuses("axis 0 1 4 ", 0, 4)
        self.refuses("axis 0  1 4", 0, 2)
        self.refuses("axis  0 1 4", 0, 1)
        self.refuses("deep a 0 1 4 \ngap", 0, 5)

    def test_words_that_lack(self):
        for text in ("axis 0 1 4", "deep a 0 1 4"):
            words = text.split(" ")
            for many in range(1, len(words)):
                self.refuses(" ".join(words[:many]), 0, many)
                self.refuses("axis 0 0 1\n" + " ".join(words[:many]).replace("axis", "fall") + "\nx", 1, many)

    def test_words_too_many(self):
        self.refuses("axis 0 1 4 5", 0, 4)
        self.refuses("deep a 0 1 4 gap 0 1 1", 0, 5)
        self.refuses("axis 0 1 4\rgap 0 1 1", 0, 3)

    def test_names(self):
        for word in ("Axis", "sign", "a", "", "0", "width", "axis\t", "row", "None"):
            self.refuses(word + " 0 1 4", 0, 0)
            self.refuses("axis 0 1 4\n" + word, 1, 0)
        for level in ("8", "-1", "-0", "00", "07", "10", "a", "", "1.0", "\u0667", "7" * 1001):
            self.refuses("gap " + level + " 1 4", 0, 1)
            self.refuses("wide a " + level + " 1 4", 0, 2)
        for sign in ("", "A", "abcdefghi", "0", "\u00e4"):
            self.refuses("high " + sign + " 0 1 4", 0, 1)

    def test_names_that_do_not_ascend(self):
        self.refuses("gap 1 1 1\ngap 1 2 1", 1, 1)
        self.refuses("gap 1 1 1\ngap 0 2 1", 1, 1)
        self.refuses("gap 1 1 1\naxis 7 2 1", 1, 1)
        self.refuses("gap 1 1 1\naxis", 1, 1)
        self.refuses("gap 1 1 1\ndeep zz 7 2 1", 1, 2)
        self.refuses("gap 1 1 1\ndeep zz", 1, 2)
        self.refuses("deep b 1 1 1\ndeep a 7 1 1", 1, 2)
        self.refuses("deep b 1 1 1\ndeep b 1 x", 1, 2)
        self.refuses("wide zzzzzzzz 7 1 1\naxis", 1, 1)
        self.refuses("wide zzzzzzzz 7 1 1\nwide zzzzzzzz 7", 1, 2)
        self.refuses("axis 0 1 1\nfall 0 1 1\naxis 1 1 1", 2, 1)
        self.refuses("axis 0 1 1\naxis 8 1 1", 1, 1)
        self.assertEqual(len(read_font("gap 1 1 1\nhigh a 0 1 1\nhigh aa 0 1 1\nhigh b 0 1 1\nrise 0 1 1")), 5)

    def test_numbers(self):
        long = "9" * 1001
        for top in ("", "-", "-0", "00", "01", "-01", "+1", "1.5", "a", "--1", "1-", long, "-" + long, "1" + "0" * 5000, "\u0661", "1_0"):
            self.refuses("gap 0 " + top + " 1", 0, 2)
            self.refuses("wide a 0 " + top + " 1", 0, 3)
        for bottom in ("", "0", "-1", "-0", "01", "+1", "a", long, "\u0661"):
            self.refuses("gap 0 1 " + bottom, 0, 3)
            self.refuses("wide a 0 1 " + bottom + " x", 0, 4)

    def test_common_divisors_at_the_bottom(self):
        self.refuses("gap 0 2 4", 0, 3)
        self.refuses("gap 0 -6 9", 0, 3)
        self.refuses("gap 0 0 2", 0, 3)
        self.refuses("gap 0 0 2 5", 0, 3)
        self.assertEqual(read_font("gap 0 -6 7\nspace 0 0 1"), ((("gap", 0), (-6, 7)), (("space", 0), (0, 1))))

    def test_the_first_line_with_a_fault(self):
        self.refuses("axis 0 1\nx", 0, 3)
        self.refuses("axis 0 1 1\ngap 9\nx", 1, 1)
        self.refuses("axis 0 1 1\ngap 0 1 1\nx", 2, 0)


class Equal(unittest.TestCase):
    def test_equal_calls_return_equal_results(self):
        text = "row 2 sign a table 1 1 sign b"
        self.assertEqual(read_formula(text), read_formula(text))
        self.assertEqual(read_font(FONT_TEXT), read_font(FONT_TEXT))
        self.assertIs(type(read_font("")), tuple)
        self.assertIs(type(read_formula(text)[2][1]), tuple)


if __name__ == "__main__":
    unittest.main()
