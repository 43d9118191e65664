import unittest

from everyfont.errors import NotFormula
from everyfont.formulas import (
    check_formula, depth_of, level_at, part_at, parts_of, paths_of, put_at, signs_of, words_of)
from wrong import ANYTHING, deep_tuple, raised

A, B, C, D = ("sign", "a"), ("sign", "b"), ("sign", "c"), ("sign", "d")
BAD = ("sign", "A")

GOOD = (
    A, ("sign", "abcdefgh"), ("row", A), ("row", A, B, C), ("over", A, B), ("root", A), ("high", A, B), ("low", A, B),
    ("both", A, B, C), ("under", "sum", A), ("upper", "sum", A), ("limits", "sum", A, B), ("fence", A), ("bar", A),
    ("table", ((A,),)), ("table", ((A, B), (C, D))), ("table", ((A, B, C),)), ("row", ("row", A), ("row", A, B)),
    ("high", ("over", ("row", A, B), C), ("high", A, ("row", B))), ("high", ("fence", ("high", A, B)), C),
    ("both", ("table", ((A,),)), ("both", A, B, C), ("row", A)), ("over", ("row", A), ("high", A, B)),
    ("high", ("under", "lim", A), B), ("low", ("root", ("low", A, B)), ("low", A, B)),
)

# The whole of it, worked out by hand: (PATH, FORMULA, level).
RICH = ("row", ("high", A, ("over", B, ("root", A))), ("limits", "sum", ("row", A, B), C), ("table", ((A, D), (("bar", B), C))))
RICH_PARTS = (
    ((), RICH, 0),
    ((1,), RICH[1], 0),
    ((1, 1), A, 0),
    ((1, 2), ("over", B, ("root", A)), 1),
    ((1, 2, 1), B, 2),
    ((1, 2, 2), ("root", A), 2),
    ((1, 2, 2, 1), A, 2),
    ((2,), RICH[2], 0),
    ((2, 2), ("row", A, B), 1),
    ((2, 2, 1), A, 1),
    ((2, 2, 2), B, 1),
    ((2, 3), C, 1),
    ((3,), RICH[3], 0),
    ((3, 1, 0, 0), A, 0),
    ((3, 1, 0, 1), D, 0),
    ((3, 1, 1, 0), ("bar", B), 0),
    ((3, 1, 1, 0, 1), B, 0),
    ((3, 1, 1, 1), C, 0),
)


def deep(depth):
    """Return a FORMULA so deep."""
    formula = A
    for _ in range(depth - 1):
        formula = ("root", formula)
    return formula


def wide(words):
    """Return a "row" of so many words."""
    return ("row",) + (A,) * (words - 1)


class CheckFormula(unittest.TestCase):
    def path(self, value):
        return raised(self, NotFormula, check_formula, value).path

    def test_formulas(self):
        for formula in GOOD + (RICH,):
            with self.subTest(formula):
                self.assertIs(check_formula(formula), formula)
        self.assertEqual(check_formula(value=A), A)

    def test_no_formula(self):
        wrong = ANYTHING + (
            (), ("a", "b"), ("sign",), ("sign", "a", "b"), ("signs", "a"), ("SIGN", "a"), (None, "a"), (["sign"], "a"),
            (("sign",), "a"), ("row",), ("over", A), ("over", A, B, C), ("root",), ("root", A, B), ("high", A),
            ("high", A, B, C), ("low", A), ("both", A, B), ("under", "a"), ("under", "a", B, C), ("upper", "a"),
            ("limits", "a", B), ("limits", "a", B, C, D), ("fence",), ("fence", A, B), ("bar",), ("bar", A, B),
            ("table",), ("table", ((A,),), A), ("table", (A,), (B,)), ["row", A], ("", A), (True, A), (0, A), deep_tuple(100),
        )
        for value in wrong:
            with self.subTest(value):
                self.assertEqual(self.path(value), ())

    def test_wrong_words_ahead_of_what_is_in_them(self):
        self.assertEqual(self.path(("over", BAD)), ())
        self.assertEqual(self.path(("roots", BAD)), ())
        self.assertEqual(self.path(("row", ("over", BAD), BAD)), (1,))

    def test_no_sign(self):
        for sign in ("", "A", "abcdefghi", "a b", "a1", "\u00e4", "a\n", " a", None, 1, True, b"a", ("a",), ["a"], A, "z{", "`"):
            with self.subTest(sign):
                self.assertEqual(self.path(("sign", sign)), (1,))
                self.assertEqual(self.path(("under", sign, A)), (1,))
                self.assertEqual(self.path(("upper", sign, BAD)), (1,))
                self.assertEqual(self.path(("limits", sign, A, BAD)), (1,))
                self.assertEqual(self.path(("row", A, ("fence", ("sign", sign)))), (2, 1, 1))

    def test_parts_that_are_none(self):
        for part in (None, "a", (), ["sign", "a"], ("sign",), True, 1, ("row",), ("what", A)):
            with self.subTest(part):
                for place in (1, 2, 3):
                    row = ["row", A, B, C]
                    row[place] = part
                    self.assertEqual(self.path(tuple(row)), (place,))
                self.assertEqual(self.path(("over", part, BAD)), (1,))
                self.assertEqual(self.path(("over", A, part)), (2,))
                self.assertEqual(self.path(("root", part)), (1,))
                self.assertEqual(self.path(("high", A, part)), (2,))
                self.assertEqual(self.path(("low", part, A)), (1,))
                self.assertEqual(self.path(("both", A, B, part)), (3,))
                self.assertEqual(self.path(("under", "a", part)), (2,))
                self.assertEqual(self.path(("upper", "a", part)), (2,))
                self.assertEqual(self.path(("limits", "a", part, part)), (2,))
                self.assertEqual(self.path(("limits", "a", A, part)), (3,))
                self.assertEqual(self.path(("fence", part)), (1,))
                self.assertEqual(self.path(("bar", part)), (1,))

    def test_what_carries_no_raised_or_lowered_part(self):
        for part in (("row", A), ("row", A, B), ("high", A, B), ("low", A, B), ("both", A, B, C), ("row",), ("high", BAD, A)):
            with self.subTest(part):
                self.assertEqual(self.path(("high", part, A)), (1,))
                self.assertEqual(self.path(("low", part, BAD)), (1,))
                self.assertEqual(self.path(("both", part, A, B)), (1,))
                self.assertEqual(self.path(("row", A, ("high", part, A))), (2, 1))
        self.assertEqual(self.path(("high", ("row", BAD), A)), (1,))
        self.assertEqual(self.path(("high", ("fence", ("row", BAD)), A)), (1, 1, 1, 1))

    def test_tables(self):
        for rows in ((), None, [(A,)], "a", A[1], [], True):
            self.assertEqual(self.path(("table", rows)), (1,))
        for row in ((), None, [A], "a", 1, True):
            self.assertEqual(self.path(("table", (row,))), (1, 0))
            self.assertEqual(self.path(("table", ((A,), row))), (1, 1))
            self.assertEqual(self.path(("table", ((A,), (B,), row, (BAD,)))), (1, 2))
        self.assertEqual(self.path(("table", ((A, B), (C,)))), (1, 1))
        self.assertEqual(self.path(("table", ((A,), (C, BAD)))), (1, 1))
        self.assertEqual(self.path(("table", ((A, B), (C, D), (A, B, C)))), (1, 2))
        self.assertEqual(self.path(("table", ((A, B), (C, None)))), (1, 1, 1))
        self.assertEqual(self.path(("table", ((A, BAD), (C,)))), (1, 0, 1, 1))
        self.assertEqual(self.path(("table", ((A, B), (BAD,), (BAD, BAD)))), (1, 1))
        self.assertEqual(self.path(("table", A)), (1, 0))
        self.assertEqual(self.path(("root", ("table", ((A,), ())))), (1, 1, 1))

    def test_the_first_from_the_left(self):
        self.assertEqual(self.path(("row", ("root", BAD), None)), (1, 1, 1))
        self.assertEqual(self.path(("row", A, None, ("root", BAD))), (2,))
        self.assertEqual(self.path(("over", ("over", A, BAD), ("over",))), (1, 2, 1))

    def test_words(self):
        self.assertEqual(check_formula(wide(60)), wide(60))
        self.assertEqual(self.path(wide(61)), ())
        self.assertEqual(self.path(("row", wide(30), wide(30))), ())
        self.assertEqual(check_formula(("row", wide(30), wide(29))), ("row", wide(30), wide(29)))
        # A sign of "under" is no word, the cells of a table are.
        self.assertEqual(words_of(check_formula(("row",) + (("under", "a", A),) * 29)), 59)
        self.assertEqual(self.path(("table", ((A,) * 30, (B,) * 30))), ())
        self.assertEqual(words_of(check_formula(("table", ((A,) * 59,)))), 60)

    def test_depth(self):
        self.assertEqual(check_formula(deep(8)), deep(8))
        self.assertEqual(self.path(deep(9)), ())
        self.assertEqual(self.path(deep(100)), ())
        self.assertEqual(self.path(("row", A, deep(8))), ())
        self.assertEqual(check_formula(("table", ((A, deep(7)),))), ("table", ((A, deep(7)),)))
        self.assertEqual(self.path(("table", ((A, deep(8)),))), ())

    def test_words_and_depth_come_at_the_end(self):
        self.assertEqual(self.path(wide(70) + (BAD,)), (70, 1))
        self.assertEqual(self.path(("row", deep(9), BAD)), (2, 1))
        deepest = BAD
        for _ in range(50):
            deepest = ("row", deepest)
        self.assertEqual(self.path(deepest), (1,) * 51)

    def test_lists_stay_as_they_are(self):
        value = ("over", ["sign", "a"], [B])
        self.assertEqual(self.path(value), (1,))
        self.assertEqual(value, ("over", ["sign", "a"], [B]))


class Counts(unittest.TestCase):
    def test_words(self):
        cases = {
            A: 1, ("row", A): 2, ("over", A, B): 3, ("under", "a", B): 2, ("limits", "a", B, C): 3,
            ("table", ((A, B), (C, D))): 5, ("table", ((A,),)): 2, RICH: 18, wide(60): 60, deep(8): 8, wide(75): 75,
        }
        for formula, words in cases.items():
            self.assertEqual(words_of(formula), words)
            self.assertEqual(words_of(formula=formula), len(paths_of(formula)))

    def test_depth(self):
        cases = {
            A: 1, ("row", A): 2, ("over", A, ("root", B)): 3, ("under", "a", B): 2, ("limits", "a", B, ("bar", C)): 3,
            ("table", ((A, B), (C, ("bar", D)))): 3, RICH: 5, wide(60): 2, deep(8): 8, deep(12): 12,
        }
        for formula, depth in cases.items():
            self.assertEqual(depth_of(formula), depth)
        self.assertEqual(depth_of(formula=A), 1)


class Parts(unittest.TestCase):
    def test_all_of_one_by_hand(self):
        self.assertEqual(paths_of(RICH), tuple(path for path, _, _ in RICH_PARTS))
        self.assertEqual(parts_of(RICH), tuple((path, part) for path, part, _ in RICH_PARTS))
        for path, part, level in RICH_PARTS:
            with self.subTest(path):
                self.assertEqual(part_at(RICH, path), part)
                self.assertEqual(level_at(RICH, path), level)

    def test_levels_of_each_word(self):
        cases = {
            ("row", A, B): (0, 0, 0), ("over", A, B): (0, 1, 1), ("root", A): (0, 0), ("high", A, B): (0, 0, 1),
            ("low", A, B): (0, 0, 1), ("both", A, B, C): (0, 0, 1, 1), ("under", "s", A): (0, 1), ("upper", "s", A): (0, 1),
            ("limits", "s", A, B): (0, 1, 1), ("fence", A): (0, 0), ("bar", A): (0, 0),
            ("table", ((A, B), (C, D))): (0, 0, 0, 0, 0), A: (0,),
        }
        for formula, levels in cases.items():
            with self.subTest(formula):
                self.assertEqual(tuple(level_at(formula, path) for path in paths_of(formula)), levels)

    def test_paths_of_each_word(self):
        cases = {
            A: ((),), ("row", A): ((), (1,)), ("both", A, B, C): ((), (1,), (2,), (3,)), ("under", "s", A): ((), (2,)),
            ("upper", "s", A): ((), (2,)), ("limits", "s", A, B): ((), (2,), (3,)),
            ("table", ((A, B), (C, D))): ((), (1, 0, 0), (1, 0, 1), (1, 1, 0), (1, 1, 1)),
        }
        for formula, paths in cases.items():
            self.assertEqual(paths_of(formula), paths)

    def test_the_greatest_level(self):
        formula = A
        for _ in range(7):
            formula = ("over", formula, B)
        self.assertEqual(level_at(formula, (1,) * 7), 7)
        self.assertEqual(level_at(deep(8), (1,) * 7), 0)

    def test_signs(self):
        self.assertEqual(signs_of(A), (("a", 0),))
        self.assertEqual(signs_of(("row", B, A, B, A)), (("a", 0), ("b", 0)))
        self.assertEqual(signs_of(("over", B, ("high", A, B))), (("a", 1), ("b", 1), ("b", 2)))
        self.assertEqual(signs_of(("limits", "sum", A, ("under", "a", B))), (("a", 1), ("b", 2), ("sum", 0)))
        self.assertEqual(
            signs_of(RICH),
            (("a", 0), ("a", 1), ("a", 2), ("b", 0), ("b", 1), ("b", 2), ("c", 0), ("c", 1), ("d", 0), ("sum", 0)))
        self.assertEqual(signs_of(("over", ("sign", "b"), ("sign", "aa"))), (("aa", 1), ("b", 1)))
        self.assertEqual(signs_of(formula=A), (("a", 0),))

    def test_tuples_are_returned(self):
        for value in (paths_of(RICH), parts_of(RICH), signs_of(RICH), parts_of(RICH)[0]):
            self.assertIs(type(value), tuple)


class WrongPaths(unittest.TestCase):
    wrong = ANYTHING[:-1] + (
        (0,), (4,), (-1,), (True,), (1, True), (1.0,), (1, 1, 1), (3, 1), (3, 1, 0), (3, 0, 0, 0), (3, 1, 0, 2), (3, 1, -1, 0),
        (2, 1), (2, 0), (1, 2, 2, 1, 1), ("1",), [1], [], (None,), ((1,),), (1, (2,)), (10 ** 3999,), deep_tuple(100),
        (3, True, 0, 0), (3, 1, False, 0), "", "1",
    )

    def test_they_are_told(self):
        for path in self.wrong:
            for function in (part_at, level_at):
                with self.subTest(path, function=function):
                    self.assertIs(raised(self, NotFormula, function, RICH, path).path, path)
            with self.subTest(path, function=put_at):
                self.assertIs(raised(self, NotFormula, put_at, RICH, path, A).path, path)

    def test_they_come_ahead_of_the_part(self):
        self.assertEqual(raised(self, NotFormula, put_at, A, (1,), None).path, (1,))
        self.assertEqual(raised(self, NotFormula, put_at, ("row", A), (2,), ("sign", "A")).path, (2,))

    def test_the_whole_alone(self):
        self.assertEqual(part_at(A, ()), A)
        self.assertEqual(raised(self, NotFormula, part_at, A, (1,)).path, (1,))
        self.assertEqual(raised(self, NotFormula, level_at, ("under", "s", A), (1,)).path, (1,))


class PutAt(unittest.TestCase):
    def test_by_hand(self):
        self.assertEqual(put_at(A, (), B), B)
        self.assertEqual(put_at(RICH, (), B), B)
        self.assertEqual(put_at(("row", A, B, C), (2,), ("row", D)), ("row", A, ("row", D), C))
        self.assertEqual(put_at(("over", ("root", A), B), (1, 1), C), ("over", ("root", C), B))
        self.assertEqual(put_at(("limits", "s", A, B), (3,), C), ("limits", "s", A, C))
        self.assertEqual(
            put_at(("table", ((A, B), (C, D))), (1, 1, 0), ("bar", A)), ("table", ((A, B), (("bar", A), D))))

    def test_every_path(self):
        new = ("fence", ("sign", "new"))
        for path, _, _ in RICH_PARTS:
            changed = put_at(RICH, path, new)
            self.assertEqual(part_at(changed, path), new)
            for other, part in parts_of(RICH):
                if other[:len(path)] != path and path[:len(other)] != other:
                    self.assertEqual(part_at(changed, other), part)

    def test_what_was_passed_stays(self):
        formula = ("row", A, ("over", B, C))
        put_at(formula, (2, 1), D)
        self.assertEqual(formula, ("row", A, ("over", B, C)))

    def test_wrong_parts(self):
        for part in ANYTHING + (deep_tuple(90),):
            with self.subTest(part):
                self.assertEqual(raised(self, NotFormula, put_at, RICH, (1, 2, 1), part).path, (1, 2, 1))
        self.assertEqual(raised(self, NotFormula, put_at, ("row", A), (1,), ("root", BAD)).path, (1, 1, 1))
        self.assertEqual(raised(self, NotFormula, put_at, A, (), BAD).path, (1,))

    def test_the_whole_is_judged(self):
        for part in (("row", A), ("high", A, B)):
            self.assertEqual(raised(self, NotFormula, put_at, ("root", ("high", A, B)), (1, 1), part).path, (1, 1))
        self.assertEqual(put_at(("root", ("high", A, B)), (1, 2), ("row", A)), ("root", ("high", A, ("row", A))))
        self.assertEqual(raised(self, NotFormula, put_at, wide(60), (1,), ("root", A)).path, ())
        self.assertEqual(words_of(put_at(wide(60), (1,), B)), 60)
        self.assertEqual(raised(self, NotFormula, put_at, deep(8), (1,) * 7, ("root", A)).path, ())
        self.assertEqual(put_at(deep(7), (1,) * 6, ("root", A)), deep(8))

    def test_names(self):
        self.assertEqual(put_at(part=B, path=(1,), formula=("row", A)), ("row", B))
        self.assertEqual(part_at(path=(1,), formula=("row", A)), A)
        self.assertEqual(level_at(path=(1,), formula=("over", A, B)), 1)
        self.assertEqual(parts_of(formula=A), (((), A),))
        self.assertEqual(paths_of(formula=A), ((),))


class Equal(unittest.TestCase):
    def test_equal_calls_return_equal_results(self):
        for function in (check_formula, words_of, depth_of, paths_of, parts_of, signs_of):
            self.assertEqual(function(RICH), function(RICH))


if __name__ == "__main__":
    unittest.main()
