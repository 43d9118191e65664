"""What one function tells, held against what others of other files tell."""

import unittest
from fractions import Fraction
from random import Random

from chance import as_fraction, family_for, some_family, some_font, some_formula, some_formulas
from everyfont.alike import are_alike
from everyfont.boxes import box_of
from everyfont.breakings import is_best, line_rows
from everyfont.claims import fits, is_so
from everyfont.clear import clear_font
from everyfont.desks import Desk
from everyfont.errors import Empty, Endless, NotPicture, TooGreat
from everyfont.expressions import box_tops
from everyfont.families import family_font, family_pairs
from everyfont.fonts import needed
from everyfont.following import is_within
from everyfont.formulas import words_of
from everyfont.grids import columns_of
from everyfont.leads import greatest_lead, leading_font
from everyfont.lines import best_breaking, least_badness, line_wide
from everyfont.never import never_more
from everyfont.numbers import minus
from everyfont.pictures import is_one_picture
from everyfont.plains import plain, table_path
from everyfont.prover import judge
from everyfont.reading import read_picture
from everyfont.rows import constant_row, row_value
from everyfont.sheets import desk_text, judged, read_desk
from everyfont.sizes import greatest_size, least_room, least_size
from everyfont.texts import read_formula
from everyfont.widths import fits_grid, least_width, width_top

A, B, C = ("sign", "a"), ("sign", "b"), ("sign", "c")


def families(many, seed, most=4):
    """Return up to so many pairs of a FORMULA and a FAMILY with bounds, and what made them by chance."""
    for formula, chance in some_formulas(many, seed):
        family = some_family(chance, formula, 0, most)
        size = len(family[0])
        system = []
        for number in range(size):
            unit = [-int(own == number) for own in range(size)]
            system.append((chance.choice(("ge", "gt")), (*unit, chance.randint(1, 9), 1)))
        yield formula, (family[0], family[1], tuple(system)), chance


class Sizes(unittest.TestCase):
    def test_the_least_room_and_claims(self):
        judged_ones = 0
        for formula, family, _ in families(120, 101):
            try:
                room = least_room(family, formula)
                self.assertEqual(judge(formula, family, fits(room))[0], "holds")
                less = minus(room, (1, 1000))
                word, point = judge(formula, family, fits(less))
            except TooGreat:
                continue
            judged_ones += 1
            self.assertEqual(word, "broken")
            self.assertFalse(is_so(formula, family_font(family, point), fits(less)))
            self.assertEqual(greatest_size(family, formula, "wide")[1], room)
        self.assertGreater(judged_ones, 50)

    def test_rooms_without_end(self):
        row = ("row", A, B)
        family = family_for(row, ("wide", "a", 0))
        self.assertRaises(Endless, least_room, family, row)
        self.assertEqual(judge(row, family, fits((10 ** 20, 1)))[0], "broken")

    def test_sizes_tops_and_never_more(self):
        for formula, family, _ in families(80, 103):
            pairs, count = family_pairs(family), len(family[0])
            try:
                tops = box_tops(family, formula)
            except TooGreat:
                continue
            for word, top in zip(("wide", "high", "deep"), tops):
                most, least = greatest_size(family, formula, word)[1], least_size(family, formula, word)[1]
                self.assertIs(never_more(count, pairs, top, (constant_row(count, most),)), True)
                self.assertIs(never_more(count, pairs, top, (constant_row(count, minus(most, (1, 999))),)), False)
                self.assertIs(never_more(count, pairs, (constant_row(count, least),), top), True)
                if count == 0:
                    self.assertEqual(most, least)

    def test_leads_of_like_ones(self):
        seen = {True: 0, False: 0}
        for formula, family, chance in families(120, 105):
            other = chance.choice((plain(formula), ("row", formula), some_formula(chance, 2)))
            family = some_family(chance, ("row", formula, other), 2, 4)
            if words_of(other) + words_of(formula) > 59:
                continue
            try:
                found = are_alike(family, formula, other)
                leads = []
                for word in ("wide", "high", "deep"):
                    leads += [greatest_lead(family, formula, other, word), greatest_lead(family, other, formula, word)]
            except TooGreat:
                continue
            seen[found] += 1
            # They are alike exactly if no one of the sizes is ever greater.
            self.assertEqual(found, all(lead != ("endless",) and lead[1][0] <= 0 for lead in leads))
            if not found:
                fonts = 0
                for word in ("wide", "high", "deep"):
                    for one, two in ((formula, other), (other, formula)):
                        try:
                            leading_font(family, one, two, word)
                            fonts += 1
                        except Empty:
                            pass
                self.assertGreater(fonts, 0)
        self.assertGreater(min(seen.values()), 20)


class Pictures(unittest.TestCase):
    def test_one_picture_is_one_reading(self):
        chance = Random(7)
        seen = {True: 0, False: 0}
        for formula, _ in some_formulas(300, 107):
            other = chance.choice((plain(formula), ("row", formula), some_formula(chance, 2)))
            if table_path(formula) is not None or table_path(other) is not None:
                continue
            names = tuple(sorted({*needed(formula), *needed(other)}))
            items = box_of(formula, clear_font(names))[3]
            found = is_one_picture(formula, other)
            seen[found] += 1
            self.assertEqual(found, read_picture(names, items) == plain(other))
            self.assertEqual(found, box_of(other, clear_font(names))[3] == items)
            if found:
                font = some_font(chance, names)
                self.assertEqual(box_of(formula, font), box_of(other, font))
        self.assertGreater(min(seen.values()), 30)

    def test_items_of_other_fonts(self):
        chance = Random(8)
        for formula, _ in some_formulas(60, 109):
            items = box_of(formula, some_font(chance, needed(formula)))[3]
            # A sign alone has the same ITEMS in all fonts.
            if len(items) > 1:
                self.assertRaises(NotPicture, read_picture, needed(formula), items)


class Lines(unittest.TestCase):
    def test_lines_in_fonts_and_families(self):
        chance = Random(9)
        for _ in range(40):
            formula = ("row", *(chance.choice((A, B, C, ("bar", A), ("fence", ("row", A, B)))) for _ in range(chance.randint(1, 5))))
            family = some_family(chance, formula, 2, 4)
            point = tuple(chance.randint(1, 9) for _ in family[0]) + (1,)
            font = family_font(family, point)
            for first, last, row in line_rows(family, formula):
                self.assertEqual(row_value(row, point), line_wide(formula, font, first, last))

    def test_the_best_breaking_of_the_only_font(self):
        chance = Random(10)
        best = 0
        for _ in range(40):
            formula = ("row", *(chance.choice((A, B, C)) for _ in range(chance.randint(1, 6))))
            font = some_font(chance, needed(formula))
            family = ((), font, ())
            breaks = tuple(place for place in range(1, len(formula) - 1) if chance.random() < 0.7)
            room = (chance.randint(5, 25), 1)
            badness = least_badness(formula, font, room, breaks)
            if badness is not None:
                breaking = best_breaking(formula, font, room, breaks)
                self.assertEqual(is_best(family, formula, room, breaks, breaking)[0], "best")
                best += 1
            else:
                self.assertEqual(is_best(family, formula, room, breaks, ()), ("not", (1,)))
        self.assertGreater(best, 10)


class Grids(unittest.TestCase):
    def test_a_grid_of_one_cell(self):
        for formula, family, _ in families(60, 111):
            if words_of(formula) > 58:
                continue
            # Its width is that of the formula, and the gap.
            grid = (1, 1, ((0, 1, 0, 1, formula),))
            fixed = tuple(sorted(family[1] + ((("gap", 0), (1, 1)),))) if ("gap", 0) not in needed(formula) else family[1]
            family = (family[0], fixed, family[2])
            try:
                top = width_top(grid, family)
                size = greatest_size(family, formula, "wide")
            except TooGreat:
                continue
            found = least_width(grid, family)
            self.assertEqual(found[0], size[0])
            self.assertIs(fits_grid(grid, family, found[1]), True)
            if ("gap", 0) not in family[0]:
                gap = Fraction(*dict(family[1])[("gap", 0)])
                self.assertEqual(Fraction(*found[1]), Fraction(*size[1]) + gap)
                self.assertEqual(found[2], size[2])
                self.assertEqual(len(top), len(box_tops(family, formula)[0]))

    def test_a_grid_of_one_row(self):
        # Cells beside one another, and a row with the space as wide as the gap.
        row = ("row", ("bar", A), B, ("over", A, B))
        grid = (3, 1, tuple((number, number + 1, 0, 1, part) for number, part in enumerate(row[1:])))
        chance = Random(11)
        for _ in range(20):
            font = dict(some_font(chance, needed(row)))
            font[("space", 0)] = font[("gap", 0)]
            font = tuple(sorted(font.items()))
            wide = Fraction(*box_of(row, font)[0]) + Fraction(*dict(font)[("gap", 0)])
            self.assertEqual(columns_of(grid, font)[-1], as_fraction(wide))


class Desks(unittest.TestCase):
    def test_a_desk_from_its_text_asks_alike(self):
        chance = Random(12)
        for _ in range(15):
            formula = some_formula(chance, 2)
            desk = Desk()
            desk.put("f", ("formula", formula))
            desk.put("g", ("family", some_family(chance, formula, 1, 3)))
            desk.put("c", ("claim", fits((chance.randint(1, 30), 1))))
            desk.put("n", ("claim", ("not", desk.thing("c")[1])))
            other = read_desk(desk_text(desk))
            for label in "cn":
                self.assertEqual(desk.ask("f", "g", label), other.ask("f", "g", label))
            self.assertEqual(desk.entries(), other.entries())
            self.assertEqual(desk.open_cases(), ())
            self.assertEqual(other.hangs("g"), (("f", "g", "c"), ("f", "g", "n")))
            found = judged(desk_text(other) + "\nholds f g c\nholds f g n")
            self.assertEqual(found, tuple(desk.verdict("f", "g", label) == "holds" for label in "cn"))
            for label, told in zip("cn", found):
                self.assertEqual(desk.follows("f", "g", label), "holds" if told else "broken")

    def test_what_follows_within_families(self):
        formula = read_formula("row 2 sign a over sign b sign b")
        wide = family_for(formula, ("wide", "a", 0), ("wide", "b", 1), system=(("ge", (-1, 0, 5, 1)), ("ge", (0, -1, 5, 1))))
        narrow = (wide[0], wide[1], wide[2] + (("gt", (-1, -1, 5, 1)),))
        self.assertIs(is_within(narrow, wide), True)
        self.assertIs(is_within(wide, narrow), False)
        desk = Desk()
        for label, thing in (("f", ("formula", formula)), ("g", ("family", wide)), ("h", ("family", narrow)), ("c", ("claim", fits(least_room(wide, formula))))):
            desk.put(label, thing)
        desk.ask("f", "g", "c")
        self.assertEqual(desk.follows("f", "h", "c"), "holds")
        self.assertEqual(judge(formula, narrow, desk.thing("c")[1])[0], "holds")


if __name__ == "__main__":
    unittest.main()
