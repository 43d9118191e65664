import unittest
from random import Random

from chance import some_formulas
from everyfont.clear import clear_font
from everyfont.fonts import check_font, is_lawful, needed
from everyfont.formulas import level_at, parts_of
from everyfont.numbers import minus
from everyfont.places import place_of
from everyfont.plains import table_path

LEVEL_NAMES = tuple((word, level) for word in ("axis", "fall", "gap", "rise", "rule", "space") for level in range(8))


def power(number):
    return (10 ** (9 * number), 1)


class ByHand(unittest.TestCase):
    def is_told(self, names, *order):
        """Hold the font against the order of its numbers."""
        self.assertEqual(names, tuple(sorted(names)))
        self.assertEqual(sorted(names), sorted(order))
        font = clear_font(names)
        self.assertEqual(font, tuple((name, power(1 + order.index(name))) for name in names))
        self.assertIs(check_font(font), font)
        self.assertIs(is_lawful(font), True)

    def test_no_name(self):
        self.assertEqual(clear_font(()), ())

    def test_one_name(self):
        for name in (("wide", "a", 3), ("deep", "a", 0), ("space", 7), ("rise", 0), ("fall", 5)):
            self.assertEqual(clear_font((name,)), ((name, (10 ** 9, 1)),))
        self.assertEqual(clear_font(names=(("gap", 0),)), ((("gap", 0), (10 ** 9, 1)),))

    def test_a_few_names(self):
        self.is_told(
            (("axis", 1), ("fall", 0), ("gap", 0), ("rise", 0), ("wide", "a", 0)),
            ("axis", 1), ("gap", 0), ("wide", "a", 0), ("rise", 0), ("fall", 0))
        # As Python compares: axis, deep, gap, high, rule, space, wide; each by its sign, then its level.
        self.is_told(
            (("axis", 0), ("deep", "b", 1), ("gap", 2), ("high", "a", 1), ("rule", 0), ("space", 3), ("wide", "a", 2), ("wide", "ab", 0), ("wide", "b", 0)),
            ("axis", 0), ("deep", "b", 1), ("gap", 2), ("high", "a", 1), ("rule", 0), ("space", 3), ("wide", "a", 2), ("wide", "ab", 0), ("wide", "b", 0))

    def test_rise_and_fall(self):
        # The greatest level first; of a level rise ahead of fall.
        self.is_told(
            (("fall", 0), ("fall", 3), ("fall", 7), ("rise", 0), ("rise", 2), ("rise", 7)),
            ("rise", 7), ("fall", 7), ("fall", 3), ("rise", 2), ("rise", 0), ("fall", 0))
        self.is_told((("fall", 1), ("rise", 0), ("wide", "z", 7)), ("wide", "z", 7), ("fall", 1), ("rise", 0))

    def test_all_levels(self):
        order = [name for name in LEVEL_NAMES if name[0] not in ("rise", "fall")]
        for level in (7, 6, 5, 4, 3, 2, 1, 0):
            order.extend([("rise", level), ("fall", level)])
        self.is_told(LEVEL_NAMES, *order)
        signs = tuple((word, letters, level) for word in ("deep", "high", "wide") for letters in ("a", "b", "zz") for level in range(8))
        names = tuple(sorted(LEVEL_NAMES + signs))
        font = dict(clear_font(names))
        self.assertEqual(len(font), 48 + 72)
        self.assertEqual(font[("fall", 0)], power(120))
        self.assertEqual(font[("rise", 7)], power(105))
        self.assertEqual(font[("wide", "zz", 7)], power(104))
        self.assertEqual(font[("axis", 0)], power(1))

    def test_some_names_by_chance(self):
        chance = Random(1)
        for _ in range(50):
            names = tuple(sorted(chance.sample(LEVEL_NAMES, chance.randint(0, 12))))
            order = [name for name in names if name[0] not in ("rise", "fall")]
            order += sorted((name for name in names if name[0] in ("rise", "fall")), key=lambda name: (-name[1], name[0] == "fall"))
            self.is_told(names, *order)
            self.assertEqual(clear_font(tuple(list(names))), clear_font(names))


class Facts(unittest.TestCase):
    def test_scripts_stand_just_rise_above_and_fall_below(self):
        up = {"over": 1, "high": 2, "both": 3, "upper": 2, "limits": 3}
        # The document does not tell this of lowered parts.
        down = {"over": 2, "under": 2, "limits": 2}
        looked = 0
        for formula, _ in some_formulas(300, 41):
            if table_path(formula) is not None:
                continue
            font = clear_font(needed(formula))
            numbers = dict(font)
            for path, part in parts_of(formula):
                level = level_at(formula, path)
                base = place_of(formula, font, path)[1]
                if part[0] in up:
                    inner = place_of(formula, font, path + (up[part[0]],))[1]
                    self.assertEqual(minus(inner, base), numbers[("rise", level)])
                if part[0] in down:
                    inner = place_of(formula, font, path + (down[part[0]],))[1]
                    self.assertEqual(minus(base, inner), numbers[("fall", level)])
                looked += part[0] in up or part[0] in down
        self.assertGreater(looked, 200)


if __name__ == "__main__":
    unittest.main()
