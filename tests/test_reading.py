import unittest
from random import Random

from chance import some_formulas
from everyfont.boxes import box_of, sorted_items
from everyfont.clear import clear_font
from everyfont.errors import NotPicture
from everyfont.fonts import needed
from everyfont.formulas import check_formula, depth_of, words_of
from everyfont.plains import is_plain, plain, table_path
from everyfont.reading import read_picture
from wrong import ANYTHING, Within, deep_tuple, raised

A, B, C = ("sign", "a"), ("sign", "b"), ("sign", "c")
AB = ("row", A, B)


def items_in(names, formula):
    """Return the ITEMS of a FORMULA in the clear font of some NAMES."""
    return box_of(formula, clear_font(names))[3]


def power(number):
    return (10 ** (9 * number), 1)


def whole(number):
    return (number, 1)


def in_rows(formula):
    """Return a FORMULA with rows of one part around all it can be around."""
    if formula[0] == "sign":
        return ("row", formula)
    if formula[0] == "row":
        return ("row", *(("row", in_rows(part)) for part in formula[1:]))
    first = 2 if formula[0] in ("high", "low", "both", "under", "upper", "limits") else 1
    return formula[:first] + tuple(in_rows(part) for part in formula[first:])


# Each stands in its clear font in a way of its own; all are plain.
PLAIN = (
    A, AB, ("row", A, A, A), ("over", A, B), ("over", AB, C), ("over", C, AB), ("over", ("over", A, B), ("over", B, A)),
    ("root", A), ("root", AB), ("root", ("root", A)), ("root", ("fence", A)), ("fence", A), ("fence", AB),
    ("fence", ("fence", A)), ("fence", ("root", A)), ("bar", A), ("bar", AB), ("bar", ("bar", A)), ("bar", ("root", A)),
    ("bar", ("fence", A)), ("bar", ("over", A, B)), ("root", ("bar", A)), ("fence", ("bar", A)), ("over", ("bar", A), ("bar", B)),
    ("row", ("bar", A), B), ("bar", ("row", A, ("bar", B))), ("row", ("bar", AB), ("bar", C)), ("bar", ("row", ("bar", A), B)),
    ("high", A, B), ("low", A, B), ("both", A, B, C), ("both", A, AB, C), ("both", A, C, AB), ("high", ("bar", A), B),
    ("bar", ("high", A, B)), ("high", ("bar", ("high", A, B)), C), ("low", ("bar", ("low", A, B)), C),
    ("high", ("over", A, B), C), ("low", ("over", A, B), C), ("both", ("over", A, ("over", B, C)), A, B),
    ("low", ("fence", ("low", ("over", A, ("low", B, C)), A)), ("low", A, B)), ("high", ("fence", ("high", A, B)), C),
    ("high", ("root", A), B), ("both", ("root", ("both", A, B, C)), ("both", A, B, C), ("both", A, B, C)),
    ("under", "a", B), ("upper", "a", B), ("limits", "a", B, C), ("under", "a", AB), ("upper", "a", AB), ("limits", "b", AB, C),
    ("limits", "b", C, AB), ("under", "a", ("under", "a", A)), ("upper", "a", ("upper", "a", A)), ("high", ("upper", "a", AB), C),
    ("row", ("upper", "a", AB), ("upper", "a", AB)), ("bar", ("under", "a", AB)), ("bar", ("bar", ("upper", "a", AB))),
    ("row", ("under", "a", AB), B, ("limits", "b", ("over", A, B), ("root", AB))), ("low", ("under", "a", ("low", A, B)), C),
    ("root", ("row", ("high", A, B), ("low", A, B), ("both", A, B, C))), ("over", ("limits", "a", B, C), ("both", A, B, C)),
    # What is raised in the bar ends just a space ahead of what is raised behind it.
    ("high", ("bar", ("both", A, ("row", B, ("upper", "a", ("row", C, C))), ("high", B, ("row", C, C)))), C),
    ("low", ("bar", ("both", A, ("high", B, ("row", C, C)), ("row", B, ("upper", "a", ("row", C, C))))), C),
    ("high", ("bar", ("both", A, ("row", B, B), B)), B),
)


class ByHand(unittest.TestCase):
    def test_numbers_of_a_sign_and_of_a_row(self):
        names = (("deep", "a", 0), ("high", "a", 0), ("wide", "a", 0))
        self.assertEqual(read_picture(names, ((whole(0), whole(0), ("sign", "a", 0)),)), A)
        # deep, deep, high, high, space, wide, wide: so a is 10 ** 54 wide, and space is 10 ** 45.
        items = ((whole(0), whole(0), ("sign", "a", 0)), ((10 ** 54 + 10 ** 45, 1), whole(0), ("sign", "b", 0)))
        self.assertEqual(read_picture(needed(AB), items), AB)
        self.assertEqual(read_picture(items=items, names=needed(AB)), AB)

    def test_numbers_of_a_bar_and_of_an_under(self):
        # deep 1, gap 2, high 3, rule 4, wide 5.
        formula = ("bar", A)
        items = ((whole(0), whole(0), ("sign", "a", 0)), (whole(0), (10 ** 27 + 10 ** 18, 1), ("rule", power(5), power(4))))
        self.assertEqual(read_picture(needed(formula), items), formula)
        # deep a 0, deep b 1, gap, high a 0, high b 1, wide a 0, wide b 1, fall: b is wider than a, which stands in the middle.
        formula = ("under", "a", B)
        items = ((whole(0), (-10 ** 72, 1), ("sign", "b", 1)), ((10 ** 63 // 2 - 10 ** 54 // 2, 1), whole(0), ("sign", "a", 0)))
        self.assertEqual(read_picture(needed(formula), items), formula)

    def test_each_word(self):
        for formula in PLAIN:
            with self.subTest(formula):
                self.assertIs(check_formula(formula), formula)
                self.assertTrue(is_plain(formula))
                names = needed(formula)
                items = items_in(names, formula)
                self.assertEqual(read_picture(names, items), formula)
                self.assertEqual(read_picture(names, items), formula)
                more = tuple(sorted({*names, *needed(("row", ("over", ("limits", "b", C, A), A), B)), ("wide", "z", 7)}))
                self.assertEqual(read_picture(more, items_in(more, formula)), formula)

    def test_rows_in_rows_and_rows_of_one_part(self):
        for formula in PLAIN:
            other = ("row", ("row", in_rows(formula)))
            if depth_of(other) <= 8:
                with self.subTest(other):
                    names = needed(other)
                    self.assertEqual(read_picture(names, items_in(names, check_formula(other))), formula)
        for other, formula in (
                (("row", A), A), (("row", ("row", A)), A), (("row", AB), AB), (("row", A, ("row", B)), AB), (("row", AB, C), ("row", A, B, C)),
                (("row", A, ("row", B, C)), ("row", A, B, C)), (("bar", ("row", ("row", A), B)), ("bar", AB))):
            self.assertEqual(read_picture(needed(other), items_in(needed(other), other)), formula)

    def test_the_most_that_a_formula_can_have(self):
        row = ("row", *((A,) * 59))
        self.assertEqual(read_picture(needed(row), items_in(needed(row), row)), row)
        deep = A
        for word in ("bar", "over", "root", "high", "limits", "fence", "bar"):
            deep = (word, A, deep) if word in ("over", "high") else (word, "b", deep, A) if word == "limits" else (word, deep)
        self.assertEqual(depth_of(check_formula(deep)), 8)
        self.assertEqual(read_picture(needed(deep), items_in(needed(deep), deep)), deep)


class Refused(unittest.TestCase):
    def is_refused(self, names, items, number):
        self.assertEqual(raised(self, NotPicture, read_picture, names, items).number, number)

    def test_more_than_a_formula_can_have(self):
        for formula in (
                ("row", *((A,) * 60)), ("row", *((("bar", A),) * 30)), ("row", *((A,) * 300)), ("row", *((("high", A, B),) * 20)), ("row", *((("both", A, B, B),) * 15)),
                ("over", ("row", *((A,) * 29)), ("row", *((A,) * 29))), ("row", *((("limits", "a", A, B),) * 20))):
            self.is_refused(needed(formula), items_in(needed(formula), formula), None)
        deep = A
        for _ in range(4):
            deep = ("bar", ("row", A, deep))
        self.assertEqual(depth_of(deep), 9)
        self.is_refused(needed(deep), items_in(needed(deep), deep), None)
        self.assertEqual(read_picture(needed(deep[1]), items_in(needed(deep[1]), deep[1])), deep[1])
        for word in ("bar", "root", "fence"):
            formula = A
            for _ in range(8):
                formula = (word, formula)
            self.is_refused(needed(formula), items_in(needed(formula), formula), None)
            for _ in range(100):
                formula = (word, formula)
            with Within(self, 20):
                self.is_refused(needed(formula), items_in(needed(formula), formula), None)

    def test_tables(self):
        for rows in (((A,),), ((A, B),), ((A,), (B,))):
            names = needed(("row", ("table", rows), ("fence", A)))
            self.is_refused(names, items_in(names, ("table", rows)), None)
            self.is_refused(names, items_in(names, ("row", A, ("table", rows))), None)

    def test_names_that_are_needed(self):
        for formula in PLAIN:
            names = needed(formula)
            items = items_in(names, formula)
            for name in names:
                with self.subTest(formula, name=name):
                    fewer = tuple(own for own in names if own != name)
                    self.is_refused(fewer, items, None)
            self.is_refused((), items, None)

    def test_other_fonts(self):
        names = needed(AB)
        self.is_refused(needed(("row", A, B, C)), items_in(names, AB), None)
        self.is_refused(names, items_in(names, ("row", A)) + ((whole(10 ** 54), whole(0), ("sign", "b", 0)),), None)
        half = (10 ** 54 + 10 ** 45) * 2 + 1
        self.is_refused(names, ((whole(0), whole(0), ("sign", "a", 0)), ((half, 2), whole(0), ("sign", "b", 0))), None)
        self.is_refused(names, ((whole(0), whole(0), ("sign", "a", 0)), ((half, 3), whole(0), ("sign", "b", 0))), None)
        self.is_refused(names, ((whole(1), whole(0), ("sign", "a", 0)),), None)
        self.is_refused(names, ((whole(0), whole(1), ("sign", "a", 0)),), None)
        self.is_refused(names, ((whole(0), whole(0), ("sign", "a", 1)),), None)
        self.is_refused(names, ((whole(0), whole(0), ("sign", "c", 0)),), None)
        self.is_refused(names, (), None)

    def test_entries_that_are_none(self):
        names = needed(("fence", A))
        good = items_in(names, ("fence", A))
        for number in range(len(good)):
            for wrong in ANYTHING + (
                    (whole(0), whole(0)), (whole(0), whole(0), ("sign", "a", 0), 1), [whole(0), whole(0), ("sign", "a", 0)],
                    (0, whole(0), ("sign", "a", 0)), (whole(0), (True, 1), ("sign", "a", 0)), ((2, 2), whole(0), ("sign", "a", 0)),
                    (whole(0), (0, 2), ("sign", "a", 0)), (whole(0), whole(0), ("sign", "a")), (whole(0), whole(0), ("sign", "A", 0)),
                    (whole(0), whole(0), ("sign", "a", 8)), (whole(0), whole(0), ("sign", "a", -1)), (whole(0), whole(0), ("sign", "a", True)),
                    (whole(0), whole(0), ("sign", "a", 0, 0)), (whole(0), whole(0), ("wide", "a", 0)), (whole(0), whole(0), "sign"),
                    (whole(0), whole(0), ["sign", "a", 0]), (whole(0), whole(0), ("sign", ("a",), 0)), (whole(0), whole(0), ("rule", whole(1))),
                    (whole(0), whole(0), ("rule", 1, whole(1))), (whole(0), whole(0), ("rule", whole(1), (1, 0))),
                    (whole(0), whole(0), ("rule", whole(1), (1, -1))), (whole(0), whole(0), ("rule", whole(1), whole(1), whole(1))),
                    (whole(0), whole(0), None), (None, whole(0), ("sign", "a", 0)), (deep_tuple(99), whole(0), ("sign", "a", 0))):
                self.is_refused(names, good[:number] + (wrong,) + good[number + 1:], number)
                # The first one counts.
                self.is_refused(names, good[:number] + (wrong, None) + good[number + 1:], number)

    def test_what_is_no_tuple(self):
        for value in ANYTHING + ([((0, 1), (0, 1), ("sign", "a", 0))], deep_tuple(100)):
            if not isinstance(value, tuple):
                self.is_refused(needed(A), value, None)
            else:
                self.is_refused(needed(A), value, 0 if value else None)
        items = [(whole(0), whole(0), ("sign", "a", 0))]
        self.is_refused(needed(A), items, None)
        self.assertEqual(items, [(whole(0), whole(0), ("sign", "a", 0))])

    def test_the_sequence_of_entries(self):
        names = needed(("fence", A))
        sign, rule = ("sign", "b", 1), ("rule", (1, 1), (1, 1))
        rising = (
            ((-1, 1), (5, 1), sign), ((0, 1), (-1, 1), sign), ((0, 1), (-1, 2), sign), ((0, 1), (-1, 3), sign),
            ((0, 1), (1, 3), ("rule", (1, 3), (5, 1))), ((0, 1), (1, 3), ("rule", (1, 2), (1, 3))), ((0, 1), (1, 3), ("rule", (1, 2), (1, 2))), ((0, 1), (1, 3), rule),
            ((0, 1), (1, 3), ("rule", (1, 1), (10, 9))), ((0, 1), (1, 3), ("rule", (10, 9), (0, 1))), ((0, 1), (1, 3), ("sign", "a", 5)),
            ((0, 1), (1, 3), ("sign", "b", 0)), ((0, 1), (1, 3), sign), ((1, 9), (0, 1), rule), ((1, 8), (0, 1), rule))
        self.is_refused(names, rising, None)
        # The same entry may come again.
        self.is_refused(names, tuple(item for item in rising for _ in range(3)), None)
        for ahead in range(len(rising)):
            for behind in range(ahead):
                self.is_refused(names, (rising[ahead], rising[behind]), 1)
                self.is_refused(names, (rising[behind], rising[ahead], rising[behind], None), 2)

    def test_great_numbers(self):
        names = needed(A)
        great = 10 ** 3999
        items = tuple((whole(great + number), (1, great + 2 * number), ("rule", (3, great), (great, 7))) for number in range(60))
        with Within(self, 20):
            self.is_refused(names, items, None)
        with Within(self, 20):
            self.is_refused(names, tuple(item for item in items for _ in range(20)) + (None,), 20 * len(items))
        many = tuple((whole(number), whole(0), ("sign", "a", 0)) for number in range(20000))
        with Within(self, 20):
            self.is_refused(names, many, None)

    def test_pictures_that_lead_far_astray(self):
        # Rules that each seem to begin one more part.
        names = needed(("row", ("bar", ("root", ("fence", A))), ("over", A, ("both", ("over", A, B), AB, AB))))
        numbers = dict(clear_font(names))
        chance = Random(7)
        for _ in range(40):
            items = []
            for _ in range(118):
                level = chance.randrange(3)
                thick = numbers.get(("rule", level), (1, 1))
                wide, high = chance.choice(((thick, numbers[("wide", "a", 1)]), (numbers[("wide", "a", 1)], thick)))
                thing = chance.choice((("rule", wide, high), ("sign", "a", level)))
                left = chance.choice(((0, 1), numbers[("wide", "a", 1)], numbers[("space", 0)]))
                items.append((left, chance.choice(((0, 1), numbers[("rise", 0)], (-numbers[("fall", 0)][0], 1))), thing))
            with Within(self, 5):
                raised(self, NotPicture, read_picture, names, sorted_items(items))


class Spoiled(unittest.TestCase):
    def is_right(self, names, items, formula):
        """Hold what is read from ITEMS that were spoiled against what it looks like; return whether there is one."""
        try:
            found = read_picture(names, items)
        except NotPicture as wrong:
            self.assertIsNone(wrong.number)
            return False
        self.assertNotEqual(found, formula)
        self.assertTrue(is_plain(check_formula(found)))
        self.assertEqual(items_in(names, found), items)
        return True

    def test_left_out_and_put_twice(self):
        for formula in PLAIN:
            names = needed(formula)
            items = items_in(names, formula)
            for number in range(len(items)):
                self.is_right(names, items[:number] + items[number + 1:], formula)
                self.assertFalse(self.is_right(names, items[:number + 1] + items[number:], formula))

    def test_moved_and_exchanged(self):
        for formula in PLAIN:
            names = needed(formula)
            items = items_in(names, formula)
            for number, (left, base, thing) in enumerate(items):
                others = items[:number] + items[number + 1:]
                for further in ((left[0] + 2 * left[1] - 1, left[1]), (left[0] + 10 ** 9 * left[1], left[1])):
                    self.assertFalse(self.is_right(names, sorted_items(others + ((further, base, thing),)), formula))
                    self.assertFalse(self.is_right(names, sorted_items(others + ((left, (base[0] - 1, base[1]), thing),)), formula))
                for other in (("sign", "a", 0), ("sign", "b", 0), ("sign", "a", 1), ("rule", (10 ** 9, 1), (10 ** 18, 1))):
                    if other != thing:
                        self.is_right(names, sorted_items(others + ((left, base, other),)), formula)
            # All of them are moved at once.
            moved = tuple((left, (base[0] + 1, base[1]), thing) for left, base, thing in items)
            self.assertFalse(self.is_right(names, sorted_items(moved), formula))

    def test_read_as_another_one(self):
        names = needed(("row", A, ("bar", B)))
        items = items_in(names, ("row", A, ("bar", B)))
        self.assertEqual(read_picture(names, tuple(item for item in items if item[2][0] == "sign")), AB)
        self.assertEqual(read_picture(names, items[:1]), A)
        names = needed(("limits", "a", B, B))
        items = items_in(names, ("limits", "a", B, B))
        self.assertEqual(read_picture(names, items[1:]), ("upper", "a", B))
        self.assertEqual(read_picture(names, items[:1] + items[2:]), ("under", "a", B))


class ByChance(unittest.TestCase):
    def test_formulas_without_tables(self):
        read = 0
        for formula, chance in some_formulas(1500, 61):
            if table_path(formula) is not None:
                continue
            names = set(needed(formula))
            if chance.random() < 0.5:
                names |= {("gap", 0), ("rule", 0), ("space", 1), ("wide", "a", 0), ("axis", 3), ("rise", 0), ("fall", 1)}
            names = tuple(sorted(names))
            items = items_in(names, formula)
            with Within(self, 5):
                self.assertEqual(read_picture(names, items), plain(formula))
            number = chance.randrange(len(items))
            try:
                found = read_picture(names, items[:number] + items[number + 1:])
            except NotPicture as wrong:
                self.assertIsNone(wrong.number)
            else:
                self.assertEqual(items_in(names, found), items[:number] + items[number + 1:])
            read += words_of(formula) > 5
        self.assertGreater(read, 150)


if __name__ == "__main__":
    unittest.main()
