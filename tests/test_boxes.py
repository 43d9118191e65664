import unittest
from fractions import Fraction
from random import Random

from chance import as_fraction, some_font, some_formula, some_formulas
from everyfont.boxes import box_at, box_of
from everyfont.errors import NotFont
from everyfont.fonts import check_font, cut_font, needed, put_font, times_font
from measures import measured
from wrong import raised

A, B, C, D = ("sign", "a"), ("sign", "b"), ("sign", "c"), ("sign", "d")
E, F, G, H, J = ("sign", "e"), ("sign", "f"), ("sign", "g"), ("sign", "h"), ("sign", "j")
HALF = Fraction(1, 2)


def font_of(numbers, signs):
    """Return the FONT of {level: {word: number}} and {(sign, level): (wide, high, deep)}."""
    pairs = [((word, level), number) for level, words in numbers.items() for word, number in words.items()]
    for (sign, level), (wide, high, deep) in signs.items():
        pairs += [(("wide", sign, level), wide), (("high", sign, level), high), (("deep", sign, level), deep)]
    return check_font(tuple(sorted((name, as_fraction(number)) for name, number in pairs)))


# Numbers unlike each other, so that none can be taken for another.
FONT = font_of(
    {
        0: {"axis": 3, "rule": 1, "gap": 2, "space": 4, "rise": 7, "fall": 5},
        1: {"axis": 2, "rule": HALF, "gap": 1, "space": 3, "rise": 4, "fall": 3},
    },
    {
        ("a", 0): (10, 8, 2), ("b", 0): (6, 11, 0), ("c", 0): (5, 4, 9), ("e", 0): (2, 20, 1), ("j", 0): (2, 1, 1),
        ("a", 1): (5, 4, 1), ("b", 1): (3, 6, 0), ("c", 1): (4, 2, 5), ("d", 1): (7, 9, 2), ("f", 1): (2, 1, 12),
        ("g", 1): (1, 1, 0), ("h", 1): (1, 12, 3),
    })


def rule(x, y, wide, high):
    """Return the item of a rule."""
    return (as_fraction(x), as_fraction(y), ("rule", as_fraction(wide), as_fraction(high)))


def sign(x, y, letters, level=0):
    """Return the item of a sign."""
    return (as_fraction(x), as_fraction(y), ("sign", letters, level))


def box(wide, high, deep, *items):
    """Return a BOX of Python's numbers."""
    return (as_fraction(wide), as_fraction(high), as_fraction(deep), items)


class ByHand(unittest.TestCase):
    maxDiff = None

    def is_box(self, formula, *numbers, font=FONT):
        self.assertEqual(box_of(formula, font), box(*numbers))

    def test_sign(self):
        self.is_box(A, 10, 8, 2, sign(0, 0, "a"))
        self.is_box(B, 6, 11, 0, sign(0, 0, "b"))

    def test_row(self):
        self.is_box(("row", A, B, C), 29, 11, 9, sign(0, 0, "a"), sign(14, 0, "b"), sign(24, 0, "c"))
        self.is_box(("row", C, A), 19, 8, 9, sign(0, 0, "c"), sign(9, 0, "a"))
        self.is_box(("row", A, A), 24, 8, 2, sign(0, 0, "a"), sign(14, 0, "a"))

    def test_row_of_one_wants_no_space(self):
        font = cut_font(FONT, (("wide", "a", 0), ("high", "a", 0), ("deep", "a", 0)))
        self.is_box(("row", A), 10, 8, 2, sign(0, 0, "a"), font=font)

    def test_over_with_a_deep_numerator(self):
        # c stands at 3 + 1 + 2 + 5 = 11, more than rise; a hangs at fall, 5, more than 2 + 4 - 3.
        self.is_box(
            ("over", C, A), 9, 13, 6,
            rule(0, 3, 9, 1), sign(2, -5, "a", 1), sign(Fraction(5, 2), 11, "c", 1))

    def test_over_with_a_high_denominator(self):
        # b stands at rise, 7, more than 3 + 1 + 2 + 0; d hangs at 2 + 9 - 3 = 8, more than fall.
        self.is_box(("over", B, D), 11, 13, 10, rule(0, 3, 11, 1), sign(2, -8, "d", 1), sign(4, 7, "b", 1))

    def test_root(self):
        self.is_box(("root", A), 15, 11, 4, rule(0, -4, 1, 15), rule(0, 10, 15, 1), sign(3, 0, "a"))

    def test_high(self):
        self.is_box(("high", A, C), 14, 9, 2, sign(0, 0, "a"), sign(10, 7, "c", 1))

    def test_high_at_a_high_base(self):
        # Raised by 20 - 7; the raised part's depth counts from rise alone: 12 - 7.
        self.is_box(("high", E, A), 7, 20, 1, sign(0, 0, "e"), sign(2, 13, "a", 1))
        self.is_box(("high", E, F), 4, 20, 5, sign(0, 0, "e"), sign(2, 13, "f", 1))
        self.is_box(("high", B, F), 8, 11, 5, sign(0, 0, "b"), sign(6, 7, "f", 1))

    def test_low(self):
        self.is_box(("low", A, B), 13, 8, 5, sign(0, 0, "a"), sign(10, -5, "b", 1))

    def test_low_at_a_deep_base(self):
        # Lowered by 9; the lowered part's height counts from fall alone: 12 - 5.
        self.is_box(("low", C, H), 6, 7, 12, sign(0, 0, "c"), sign(5, -9, "h", 1))

    def test_both(self):
        self.is_box(
            ("both", A, B, C), 14, 9, 5, sign(0, 0, "a"), sign(10, -5, "b", 1), sign(10, 7, "c", 1))
        self.is_box(
            ("both", C, H, F), 7, 8, 12, sign(0, 0, "c"), sign(5, -9, "h", 1), sign(5, 7, "f", 1))
        # The heights are 1, 7 + 1 and 12 - 5, the depths 1, 5 + 3 and 12 - 7.
        self.is_box(
            ("both", J, H, F), 4, 8, 8, sign(0, 0, "j"), sign(2, -5, "h", 1), sign(2, 7, "f", 1))

    def test_both_with_the_lowered_part_the_highest(self):
        font = put_font(FONT, ((("high", "h", 1), (40, 1)), (("deep", "f", 1), (50, 1))))
        self.is_box(
            ("both", J, H, F), 4, 35, 43, sign(0, 0, "j"), sign(2, -5, "h", 1), sign(2, 7, "f", 1), font=font)

    def test_under(self):
        self.is_box(("under", "a", B), 10, 8, 10, sign(0, 0, "a"), sign(Fraction(7, 2), -10, "b", 1))
        self.is_box(("under", "b", D), 7, 11, 13, sign(0, -11, "d", 1), sign(HALF, 0, "b"))
        self.is_box(("under", "b", G), 6, 11, 5, sign(0, 0, "b"), sign(Fraction(5, 2), -5, "g", 1))

    def test_upper(self):
        self.is_box(("upper", "a", C), 10, 17, 2, sign(0, 0, "a"), sign(3, 15, "c", 1))
        self.is_box(("upper", "j", G), 2, 8, 1, sign(0, 0, "j"), sign(HALF, 7, "g", 1))
        self.is_box(("upper", "j", C), 4, 10, 1, sign(0, 8, "c", 1), sign(1, 0, "j"))

    def test_limits(self):
        self.is_box(
            ("limits", "a", B, C), 10, 17, 10,
            sign(0, 0, "a"), sign(3, 15, "c", 1), sign(Fraction(7, 2), -10, "b", 1))
        self.is_box(
            ("limits", "j", D, B), 7, 13, 14,
            sign(0, -12, "d", 1), sign(2, 7, "b", 1), sign(Fraction(5, 2), 0, "j"))

    def test_fence(self):
        self.is_box(("fence", A), 16, 10, 4, rule(0, -4, 1, 14), sign(3, 0, "a"), rule(15, -4, 1, 14))

    def test_bar(self):
        self.is_box(("bar", A), 10, 11, 2, sign(0, 0, "a"), rule(0, 10, 10, 1))

    def test_table(self):
        # Columns 10 and 6 wide; rows 11 and 2, 20 and 9 high and deep: T is 44, the bases are at 14 and -10.
        self.is_box(
            ("table", ((A, B), (C, E))), 28, 25, 19,
            rule(0, -19, 1, 44), sign(3, 14, "a"), sign(Fraction(11, 2), -10, "c"), sign(19, 14, "b"),
            sign(21, -10, "e"), rule(27, -19, 1, 44))

    def test_table_of_one_column_wants_no_space(self):
        names = tuple(name for name, _ in FONT if name != ("space", 0))
        font = cut_font(FONT, names)
        # T is 1 + 1 + 2 + 8 + 2.
        self.is_box(
            ("table", ((J,), (A,))), 16, 10, 4,
            rule(0, -4, 1, 14), sign(3, -2, "a"), sign(7, 9, "j"), rule(15, -4, 1, 14), font=font)

    def test_table_above_the_base_line(self):
        # T is 2, so that it goes from 2 to 4: DEEP is 0, not -2.
        self.is_box(("table", ((J,),)), 8, 4, 0, rule(0, 2, 1, 2), sign(3, 3, "j"), rule(7, 2, 1, 2))

    def test_table_of_one_row(self):
        # The highest cell, 11, and the deepest, 9, tell T, 20.
        self.is_box(
            ("table", ((B, C, J),)), 31, 13, 7,
            rule(0, -7, 1, 20), sign(3, 2, "b"), sign(15, 2, "c"), sign(26, 2, "j"), rule(30, -7, 1, 20))

    def test_table_beneath_the_base_line(self):
        font = put_font(FONT, ((("axis", 0), (-5, 1)),))
        self.is_box(("table", ((J,),)), 8, 0, 6, rule(0, -6, 1, 2), sign(3, -5, "j"), rule(7, -6, 1, 2), font=font)

    def test_parts_in_parts(self):
        # The root is 8 wide, 8 + 1/2 + 1 high, 2 deep at level 1: with d 7 wide, 9 high, 2 deep, rule 1/2, gap 1.
        self.is_box(
            ("high", A, ("root", D)), Fraction(39, 2), Fraction(35, 2), 2,
            sign(0, 0, "a"), rule(10, 4, HALF, Fraction(27, 2)), rule(10, 17, Fraction(19, 2), HALF),
            sign(Fraction(23, 2), 7, "d", 1))
        self.is_box(
            ("bar", ("fence", A)), 16, 13, 4,
            rule(0, -4, 1, 14), rule(0, 12, 16, 1), sign(3, 0, "a"), rule(15, -4, 1, 14))

    def test_names(self):
        self.assertEqual(box_of(font=FONT, formula=A), box_of(A, FONT))
        self.assertEqual(box_at(font=FONT, level=1, formula=D), box_at(D, 1, FONT))


class Levels(unittest.TestCase):
    def test_box_at_a_level(self):
        self.assertEqual(box_at(A, 0, FONT), box_of(A, FONT))
        self.assertEqual(box_at(A, 1, FONT), box(5, 4, 1, sign(0, 0, "a", 1)))
        self.assertEqual(
            box_at(("row", A, D), 1, FONT), box(15, 9, 2, sign(0, 0, "a", 1), sign(8, 0, "d", 1)))
        self.assertEqual(
            box_at(("bar", A), 1, FONT), box(5, Fraction(11, 2), 1, sign(0, 0, "a", 1), rule(0, 5, 5, HALF)))

    def test_the_greatest_level(self):
        numbers = font_of({6: {"rise": 7}}, {("a", 6): (10, 8, 2), ("b", 7): (4, 2, 5)})
        self.assertEqual(
            box_at(("high", A, B), 6, numbers), box(14, 9, 2, sign(0, 0, "a", 6), sign(10, 7, "b", 7)))
        numbers = font_of({7: {"space": 0}}, {("a", 7): (10, 8, 2)})
        self.assertEqual(
            box_at(("row", A, A), 7, numbers), box(20, 8, 2, sign(0, 0, "a", 7), sign(10, 0, "a", 7)))

    def test_seven_levels_down(self):
        formula, words = A, ("axis", "rule", "gap", "rise", "fall")
        for _ in range(7):
            formula = ("over", formula, A)
        font = font_of(
            {level: {word: 1 for word in words} for level in range(7)}, {("a", level): (1, 1, 0) for level in range(1, 8)})
        found = box_of(formula, font)
        # The innermost numerator is raised by axis + rule + gap, the six around it, 1 deep, by 1 more.
        self.assertEqual(found[:3], ((15, 1), (28, 1), (1, 1)))
        self.assertIn(sign(7, 27, "a", 7), found[3])


class Lacking(unittest.TestCase):
    def name(self, function, *arguments):
        return raised(self, NotFont, function, *arguments).name

    def test_the_least_name(self):
        self.assertEqual(self.name(box_of, A, ()), ("deep", "a", 0))
        self.assertEqual(self.name(box_of, ("row", A, B), ()), ("deep", "a", 0))
        self.assertEqual(self.name(box_of, ("over", A, B), ()), ("axis", 0))
        self.assertEqual(self.name(box_at, ("over", A, B), 3, ()), ("axis", 3))
        self.assertEqual(self.name(box_at, D, 0, FONT), ("deep", "d", 0))
        self.assertEqual(self.name(box_at, A, 2, FONT), ("deep", "a", 2))

    def test_each_name(self):
        formula = ("row", ("over", A, B), ("table", ((C, ("both", E, H, ("limits", "a", G, F))),)), ("root", J))
        names = needed(formula)
        font = some_font(Random(1), names)
        box_of(formula, font)
        for name in names:
            with self.subTest(name):
                others = tuple(other for other in names if other != name)
                self.assertEqual(self.name(box_of, formula, cut_font(font, others)), name)
                self.assertEqual(self.name(box_of, formula, tuple(pair for pair in font if pair[0] < name)), name)

    def test_no_more_is_wanted(self):
        chance = Random(2)
        for _ in range(40):
            formula = some_formula(chance, 4)
            font = some_font(chance, needed(formula))
            more = put_font(some_font(chance, [("gap", 7), ("wide", "zz", 3)]), font)
            self.assertEqual(box_of(formula, more), box_of(formula, font))


class Sorting(unittest.TestCase):
    maxDiff = None

    def test_by_values(self):
        # 9/2 is behind 5 as a tuple, ahead of it as a number.
        font = font_of({0: {"space": 0}}, {("a", 0): (Fraction(9, 2), 1, 0), ("b", 0): (HALF, 1, 0)})
        self.assertEqual(
            box_of(("row", A, B, A), font)[3], (sign(0, 0, "a"), sign(Fraction(9, 2), 0, "b"), sign(5, 0, "a")))
        font = font_of(
            {0: {"rule": 1, "gap": Fraction(1, 3), "rise": 1, "fall": Fraction(9, 2)}},
            {("a", 0): (2, 1, 0), ("b", 1): (2, 1, 0), ("c", 1): (2, 1, 0)})
        self.assertEqual(
            box_of(("limits", "a", B, C), font)[3],
            (sign(0, Fraction(-9, 2), "b", 1), sign(0, 0, "a"), sign(0, Fraction(4, 3), "c", 1)))

    def test_by_height_on_the_page(self):
        self.assertEqual(
            box_of(("bar", ("bar", A)), FONT)[3], (sign(0, 0, "a"), rule(0, 10, 10, 1), rule(0, 13, 10, 1)))

    def test_rules_ahead_of_signs(self):
        # The bar in the part beneath is at (0, 0), as the sign is.
        font = font_of(
            {0: {"gap": HALF, "fall": -100}, 1: {"rule": HALF, "gap": 1}}, {("s", 0): (3, 1, -1), ("b", 1): (3, 6, 0)})
        self.assertEqual(
            box_of(("under", "s", ("bar", B)), font)[3],
            (sign(0, -7, "b", 1), rule(0, 0, 3, HALF), sign(0, 0, "s")))

    def test_rules_by_width(self):
        # Both rules are at (0, 3), that of the root is the wider one.
        font = font_of(
            {0: {"axis": 3, "rule": -1, "gap": 1, "rise": 7, "fall": 1}}, {("a", 1): (4, -5, 0), ("b", 1): (4, 1, 0)})
        wide, high, deep, items = box_of(("root", ("over", A, B)), font)
        self.assertEqual((wide, high, deep), ((7, 1), (2, 1), (2, 1)))
        self.assertEqual(items, (
            rule(0, -2, -1, 4), rule(0, 3, 6, -1), rule(0, 3, 7, -1), sign(1, -1, "b", 1), sign(1, 7, "a", 1)))

    def test_rules_by_the_value_of_their_width(self):
        # As above, but 9/2 and 5 wide, of which 5 is the lesser one as a tuple.
        font = font_of(
            {0: {"axis": 3, "rule": -HALF, "gap": HALF, "rise": 7, "fall": 1}},
            {("a", 1): (Fraction(7, 2), Fraction(-9, 2), 0), ("b", 1): (1, 1, 0)})
        self.assertEqual(
            box_of(("root", ("over", A, B)), font)[3][1:3],
            (rule(0, 3, Fraction(9, 2), -HALF), rule(0, 3, 5, -HALF)))

    def test_rules_by_height(self):
        # With gap -1 and rule 1 the rules of the table, 6 high, and of the fence, 5 high, are at the same places.
        font = font_of(
            {0: {"axis": 0, "rule": 1, "gap": -1, "space": 0}}, {("a", 0): (0, 6, 0), ("b", 0): (0, 3, 4)})
        self.assertEqual(
            box_of(("row", ("table", ((A,),)), ("fence", B)), font)[3],
            (
                rule(-1, -3, 1, 5), rule(-1, -3, 1, 6), rule(0, -3, 1, 5), rule(0, -3, 1, 6), sign(0, -3, "a"),
                sign(0, 0, "b")))

    def test_rules_by_the_value_of_their_height(self):
        # As above, but 5 and 9/2 high.
        font = font_of(
            {0: {"axis": 0, "rule": 1, "gap": -1, "space": 0}},
            {("a", 0): (0, 5, 0), ("b", 0): (0, 3, Fraction(7, 2))})
        low, high = rule(0, Fraction(-5, 2), 1, Fraction(9, 2)), rule(0, Fraction(-5, 2), 1, 5)
        self.assertEqual(box_of(("row", ("table", ((A,),)), ("fence", B)), font)[3][2:4], (low, high))
        self.assertEqual(box_of(("row", ("fence", B), ("table", ((A,),))), font)[3][2:4], (low, high))

    def test_signs_by_letters_then_by_level(self):
        font = font_of(
            {0: {"space": 0, "rise": 0}},
            {("b", 0): (0, 0, 0), ("a", 0): (0, 0, 0), ("a", 1): (0, 0, 0), ("aa", 0): (0, 0, 0)})
        self.assertEqual(
            box_of(("row", ("high", B, A), ("sign", "aa"), A), font)[3],
            (sign(0, 0, "a"), sign(0, 0, "a", 1), sign(0, 0, "aa"), sign(0, 0, "b")))

    def test_like_items_stand_as_often_as_they_come(self):
        font = font_of({0: {"space": 0}}, {("a", 0): (0, 1, 1), ("b", 0): (1, 1, 1)})
        self.assertEqual(
            box_of(("row", A, B, A, A), font)[3],
            (sign(0, 0, "a"), sign(0, 0, "b"), sign(1, 0, "a"), sign(1, 0, "a")))
        font = font_of({0: {"space": 0, "rule": 1, "gap": -1}}, {("a", 0): (1, 1, 1)})
        self.assertEqual(box_of(("fence", A), font)[3], (rule(0, 0, 1, 0), rule(0, 0, 1, 0), sign(0, 0, "a")))


class Facts(unittest.TestCase):
    def test_the_numbers_are_those_of_the_steps(self):
        for formula, chance in some_formulas(150, 4):
            font = some_font(chance, needed(formula), chance.random() < 0.7)
            _, _, wide, high, deep, _, _ = measured(formula, font)[0]
            self.assertEqual(box_of(formula, font)[:3], tuple(as_fraction(number) for number in (wide, high, deep)))

    def test_all_lies_within_the_box(self):
        for formula, chance in some_formulas(150, 5):
            font = some_font(chance, needed(formula))
            numbers = {name: Fraction(*number) for name, number in font}
            wide, high, deep, items = box_of(formula, font)
            wide, high, deep = Fraction(*wide), Fraction(*high), Fraction(*deep)
            self.assertGreater(wide, 0)
            self.assertGreaterEqual(min(high, deep), 0)
            self.assertGreater(high + deep, 0)
            for x, y, thing in items:
                left, base = Fraction(*x), Fraction(*y)
                if thing[0] == "rule":
                    right, top, bottom = left + Fraction(*thing[1]), base + Fraction(*thing[2]), base
                else:
                    right, top, bottom = (
                        left + numbers[("wide", *thing[1:])], base + numbers[("high", *thing[1:])],
                        base - numbers[("deep", *thing[1:])])
                self.assertTrue(0 <= left and right <= wide and -deep <= bottom and top <= high)

    def test_items_are_sorted(self):
        for formula, chance in some_formulas(100, 6):
            items = box_of(formula, some_font(chance, needed(formula), False))[3]
            keys = []
            for x, y, thing in items:
                keys.append((Fraction(*x), Fraction(*y), thing[0] == "sign") + (
                    thing[1:] if thing[0] == "sign" else (Fraction(*thing[1]), Fraction(*thing[2]))))
            self.assertEqual(keys, sorted(keys))

    def test_how_many_items_there_are(self):
        rules = {"over": 1, "root": 2, "fence": 2, "bar": 1, "table": 2}
        for formula, chance in some_formulas(60, 7):
            items = box_of(formula, some_font(chance, needed(formula)))[3]
            words = [word for word in str(formula).replace("'", " ").replace(",", " ").split() if word in rules]
            self.assertEqual(sum(thing[0] == "rule" for _, _, thing in items), sum(rules[word] for word in words))

    def test_a_font_times_a_number(self):
        for formula, chance in some_formulas(60, 8):
            font, factor = some_font(chance, needed(formula)), as_fraction(Fraction(chance.randint(1, 9), 7))
            times = lambda number: as_fraction(Fraction(*number) * Fraction(*factor))
            wide, high, deep, items = box_of(formula, font)
            more = []
            for x, y, thing in items:
                more.append((times(x), times(y), thing if thing[0] == "sign" else ("rule", times(thing[1]), times(thing[2]))))
            self.assertEqual(
                box_of(formula, times_font(font, factor)), (times(wide), times(high), times(deep), tuple(more)))

    def test_equal_calls_return_equal_results(self):
        for formula, chance in some_formulas(20, 9):
            font = some_font(chance, needed(formula))
            self.assertEqual(box_of(formula, font), box_of(formula, font))
            for thing in (box_of(formula, font), box_of(formula, font)[3], box_of(formula, font)[3][0]):
                self.assertIs(type(thing), tuple)

    def test_long_integers(self):
        long = 10 ** 300 + 1
        font = font_of(
            {0: {"space": Fraction(1, long)}}, {("a", 0): (Fraction(long, 2), 1, 0), ("b", 0): (Fraction(1, 3), 1, 0)})
        self.assertEqual(box_of(("row", A, B), font)[0], as_fraction(Fraction(long, 2) + Fraction(1, long) + Fraction(1, 3)))


if __name__ == "__main__":
    unittest.main()
