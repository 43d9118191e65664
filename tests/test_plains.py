import unittest

from chance import some_font, some_formulas
from everyfont.boxes import box_of
from everyfont.fonts import needed
from everyfont.formulas import check_formula, parts_of, paths_of
from everyfont.plains import is_plain, plain, table_path

A, B, C = ("sign", "a"), ("sign", "b"), ("sign", "c")
AB = ("row", A, B)


class Plain(unittest.TestCase):
    def is_told(self, formula, found):
        check_formula(formula)
        self.assertEqual(plain(formula), found)
        self.assertEqual(plain(found), found)
        self.assertIs(is_plain(formula), formula == found)
        self.assertIs(is_plain(found), True)
        check_formula(found)

    def test_rows_in_rows(self):
        self.is_told(AB, AB)
        self.is_told(("row", A), A)
        self.is_told(("row", ("row", A)), A)
        self.is_told(("row", AB), AB)
        self.is_told(("row", ("row", AB)), AB)
        self.is_told(("row", AB, C), ("row", A, B, C))
        self.is_told(("row", C, AB, C, AB), ("row", C, A, B, C, A, B))
        self.is_told(("row", A, ("row", B, ("row", C, AB))), ("row", A, B, C, A, B))
        self.is_told(("row", ("row", A), ("row", B)), AB)
        self.is_told(("row", ("row", ("row", A), ("row", ("row", B), C))), ("row", A, B, C))
        self.is_told(("row", A, A), ("row", A, A))

    def test_rows_in_other_formulas_stay(self):
        self.is_told(("row", ("fence", AB), C), ("row", ("fence", AB), C))
        self.is_told(("row", ("fence", ("row", AB)), ("row", C)), ("row", ("fence", AB), C))
        self.is_told(("over", ("row", A), ("row", AB, C)), ("over", A, ("row", A, B, C)))

    def test_each_word(self):
        row, long = ("row", A), ("row", AB, ("row", C))
        flat = ("row", A, B, C)
        for formula, found in (
                (("sign", "a"), ("sign", "a")), (("over", row, long), ("over", A, flat)), (("root", row), ("root", A)), (("fence", long), ("fence", flat)),
                (("bar", row), ("bar", A)), (("high", ("root", row), long), ("high", ("root", A), flat)), (("low", A, row), ("low", A, A)),
                (("both", ("bar", row), long, row), ("both", ("bar", A), flat, A)), (("under", "row", row), ("under", "row", A)),
                (("upper", "s", long), ("upper", "s", flat)), (("limits", "s", row, long), ("limits", "s", A, flat)),
                (("table", ((row, long), (A, row))), ("table", ((A, flat), (A, A)))),
                (("row", ("table", ((row,),))), ("table", ((A,),)))):
            self.is_told(formula, found)
        self.assertEqual(plain(formula=("row", A)), A)
        self.assertIs(is_plain(formula=("row", A)), False)

    def test_the_deepest(self):
        formula = ("row", A, B)
        for _ in range(6):
            formula = ("row", formula)
        self.is_told(formula, AB)
        formula = ("row", A)
        for _ in range(6):
            formula = ("row", formula, A)
        self.is_told(formula, ("row",) + (A,) * 7)
        self.is_told(("row",) + (("row", A),) * 29, ("row",) + (A,) * 29)

    def test_boxes_stay(self):
        unlike = 0
        for formula, chance in some_formulas(500, 31):
            found = plain(formula)
            self.is_told(formula, found)
            unlike += formula != found
            font = some_font(chance, needed(formula))
            self.assertEqual(box_of(found, font), box_of(formula, font))
            for _, part in parts_of(found):
                if part[0] == "row":
                    self.assertGreater(len(part), 2)
                    self.assertNotIn("row", [own[0] for own in part[1:]])
        self.assertGreater(unlike, 50)


class TablePath(unittest.TestCase):
    def test_by_hand(self):
        table = ("table", ((A, B),))
        for formula, path in (
                (A, None), (AB, None), (table, ()), (("root", table), (1,)), (("row", A, table, table), (2,)), (("over", A, table), (2,)),
                (("row", ("fence", ("bar", table)), table), (1, 1, 1)), (("table", ((A, table),)), ()), (("limits", "table", A, table), (3,)),
                (("both", A, ("row", B, ("high", B, table)), table), (2, 2, 2)), (("sign", "table"), None)):
            check_formula(formula)
            self.assertEqual(table_path(formula), path)
        self.assertEqual(table_path(formula=table), ())

    def test_the_first_one(self):
        for formula, _ in some_formulas(100, 32):
            tables = [path for path, part in parts_of(formula) if part[0] == "table"]
            self.assertEqual(table_path(formula), tables[0] if tables else None)
            self.assertTrue(table_path(formula) is None or table_path(formula) in paths_of(formula))


if __name__ == "__main__":
    unittest.main()
