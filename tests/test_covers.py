import unittest
from itertools import product
from random import Random

from chance import lowest_row, some_system, system_at
from elimination import somewhere
from everyfont.bars import is_bar
from everyfont.covers import check_cover, cover_paper, uncovered
from everyfont.errors import Empty, NotPaper, NotSystem, TooGreat
from everyfont.systems import holds_all
from test_systems import WRONG_SYSTEMS
from wrong import ANYTHING, Within, deep_tuple, raised

ZERO, ONE = (0, 1), (1, 1)


def low(number, word="ge"):
    """Return the pair that x is at least, or more than, a number."""
    return (word, (1, -number, 1))


def high(number, word="ge"):
    """Return the pair that x is at most, or less than, a number."""
    return (word, (-1, number, 1))


# 0 <= x <= 2, in two halves, with 1 in one of them alone.
LINE = (low(0), high(2))
LEFT, RIGHT = (low(0), high(1, "gt")), (low(1), high(2))
# 0 < 0: holds nowhere.
NOWHERE = (("gt", (0, 0, 1)),)
TRUE = ("ge", (0, 1, 1))


def denied(system):
    """Return the denials of a SYSTEM, by hand."""
    found = []
    for word, row in system:
        below = tuple(-top for top in row[:-1]) + row[-1:]
        found.extend({"ge": [("gt", below)], "gt": [("ge", below)], "eq": [("gt", row), ("gt", below)]}[word])
    return found


def is_covered(count, system, systems):
    """Return whether a SYSTEM's set is covered, by elimination and all ways to deny the others."""
    return not any(somewhere(count, system + chosen) for chosen in product(*(denied(other) for other in systems)))


class Uncovered(unittest.TestCase):
    def is_right(self, count, system, systems):
        """Return whether uncovered tells None; otherwise the POINT, and in both cases the paper, is right."""
        point = uncovered(count, system, systems)
        self.assertEqual(uncovered(count, system, systems), point)
        if point is None:
            paper = cover_paper(count, system, systems)
            self.assertEqual(cover_paper(count, system, systems), paper)
            self.assertIs(check_cover(count, system, systems, paper), True)
            return True
        self.assertIs(holds_all(count, system, point), True)
        self.assertFalse(any(holds_all(count, other, point) for other in systems))
        raised(self, Empty, cover_paper, count, system, systems)
        return False

    def test_no_others(self):
        self.assertFalse(self.is_right(1, LINE, ()))
        self.assertFalse(self.is_right(1, (), ()))
        self.assertTrue(self.is_right(1, NOWHERE, ()))
        self.assertEqual(cover_paper(1, NOWHERE, ()), ("bar", (ONE,)))

    def test_points_that_are_alone(self):
        for system, systems, point in (
                (LINE, ((low(0, "gt"),),), (0, 1)), (LINE, ((high(2, "gt"),),), (2, 1)), ((low(3), high(3)), (), (3, 1)),
                (LINE, (LEFT, (low(1, "gt"),)), (1, 1)), ((("eq", (2, -3, 1)),), (LEFT, NOWHERE), (3, 2)),
                (LINE, ((low(0, "gt"), high(1)), (low(1, "gt"),)), (0, 1)), ((("eq", (1, -1, 1)),), (NOWHERE, LEFT), (1, 1))):
            with self.subTest(system, systems=systems):
                self.assertEqual(uncovered(1, system, systems), point)
                self.assertFalse(self.is_right(1, system, systems))

    def test_one_other(self):
        for system, other, told in (
                (LINE, LINE, True), (LINE, LEFT, False), (LEFT, LINE, True), (LEFT, (high(1),), True), (LINE, (), True), ((), (), True),
                ((), LINE, False), (LINE, NOWHERE, False), (NOWHERE, NOWHERE, True), (NOWHERE, LINE, True), ((low(0, "gt"),), (low(0),), True),
                ((low(0),), (low(0, "gt"),), False), ((("eq", (1, -1, 1)),), RIGHT, True), (RIGHT, (("eq", (1, -1, 1)),), False),
                ((low(1), high(1)), (("eq", (3, -3, 1)),), True), ((), (TRUE,), True), ((), (("eq", (0, 0, 1)),), True)):
            with self.subTest(system, other=other):
                self.assertIs(self.is_right(1, system, (other,)), told)

    def test_more_others(self):
        for systems, told in (
                ((LEFT, RIGHT), True), ((RIGHT, LEFT), True), (((low(0), high(1)), RIGHT), True), ((LEFT, (low(1, "gt"), high(2))), False),
                ((LEFT, (low(1, "gt"), high(2)), (("eq", (1, -1, 1)),)), True), ((NOWHERE, LEFT, NOWHERE, RIGHT), True),
                ((LEFT, LEFT, LEFT, LEFT), False), ((LEFT, (), NOWHERE), True)):
            self.assertIs(self.is_right(1, LINE, systems), told)

    def test_six_others(self):
        line = (low(0), high(6, "gt"))
        parts = tuple((low(k), high(k + 1, "gt")) for k in range(6))
        self.assertTrue(self.is_right(1, line, parts))
        self.assertTrue(self.is_right(1, line, parts[::-1]))
        for k in range(6):
            self.assertFalse(self.is_right(1, line, parts[:k] + parts[k + 1:]))
            self.assertFalse(self.is_right(1, line, parts[:k] + ((low(k, "gt"), high(k + 1, "gt")),) + parts[k + 1:]))
            self.assertEqual(uncovered(1, line, parts[:k] + ((low(k, "gt"), high(k + 1)),) + parts[k + 1:]), (k, 1))

    def test_a_plane(self):
        # Four quadrants, their rims in one of them each, cover the plane; without the point 0, they do not.
        right, up = (1, 0, 0, 1), (0, 1, 0, 1)
        left, down = (-1, 0, 0, 1), (0, -1, 0, 1)
        quadrants = (
            (("ge", right), ("ge", up)), (("gt", left), ("ge", up)), (("gt", left), ("gt", down)), (("ge", right), ("gt", down)))
        self.assertTrue(self.is_right(2, (), quadrants))
        self.assertTrue(self.is_right(2, (("eq", (1, 1, -5, 1)),), quadrants[:2] + quadrants[3:]))
        holes = ((("ge", right), ("gt", up)), (("gt", left), ("ge", up))) + quadrants[2:3] + ((("gt", right), ("ge", down)),)
        self.assertEqual(uncovered(2, (("ge", up), ("ge", right), ("ge", (-1, -1, 3, 1))), holes), (0, 0, 1))
        self.assertFalse(self.is_right(2, (), holes))

    def test_sixteen_pairs(self):
        many = (low(0),) + (TRUE,) * 14 + (high(1, "gt"),)
        self.assertTrue(self.is_right(1, LINE, (many, RIGHT)))
        self.assertFalse(self.is_right(1, LINE, (many, many, many, many, many, many)))
        copies = (low(0),) * 8 + (high(1, "gt"),) * 8
        self.assertTrue(self.is_right(1, LINE, (copies, RIGHT)))
        with Within(self, 10):
            for count in (6, 24):
                cube = tuple(("ge", (0,) * k + (1,) + (0,) * (count - k) + (1,)) for k in range(count))
                parts = tuple(((word, (1,) * count + (-5, 1)),) + cube[:15] for word in ("ge", "gt"))
                self.assertFalse(self.is_right(count, cube, parts))
                below = (("ge", (-1,) * count + (5, 1)),) + cube[:15]
                self.assertEqual(self.is_right(count, cube, parts[1:] + (below,)), True)

    def test_against_all_ways_to_deny(self):
        chance = Random(1)
        found = {}
        for _ in range(400):
            count = chance.randint(1, 3)
            system = some_system(chance, count, chance.randint(0, 4), most=2, constant=2)
            systems = tuple(
                some_system(chance, count, chance.randint(1, 3), chance.choice((("ge",), ("ge", "gt", "eq"))), 1, 2)
                for _ in range(chance.randint(0, 4)))
            told = self.is_right(count, system, systems)
            self.assertEqual(told, is_covered(count, system, systems))
            key = (told, len(systems))
            found[key] = found.get(key, 0) + 1
        self.assertGreater(min(found[told, many] for told in (True, False) for many in range(5)), 5)

    def test_great_systems(self):
        chance = Random(2)
        told = []
        for count, pairs, many in ((24, 60, 16), (12, 60, 16), (3, 60, 16), (2, 20, 12), (24, 30, 4)):
            system = system_at(chance, count, pairs, [chance.randint(-3, 3) for _ in range(count)], ("ge", "gt"), 2)
            systems = tuple(
                tuple(("ge", lowest_row([chance.randint(-1, 1) for _ in range(count)] + [chance.randint(0, 9), 1])) for _ in range(many))
                for _ in range(6))
            with Within(self, 20):
                told.append(self.is_right(count, system, systems))
        self.assertEqual(set(told), {True, False})


class Covers(unittest.TestCase):
    """COVERS written by hand, and what is wrong with others."""

    # Denials of LEFT: x < 0, x >= 1; of RIGHT: x < 1, x > 2. On each way: x >= 0, x <= 2, then these.
    COVER = ("open", (
        ("bar", (ONE, ZERO, ONE)),
        ("open", (("bar", (ZERO, ZERO, ONE, ONE)), ("bar", (ZERO, ONE, ZERO, ONE))))))

    def fails(self, paper, path, system=LINE, systems=(LEFT, RIGHT)):
        with self.subTest(paper):
            self.assertEqual(raised(self, NotPaper, check_cover, 1, system, systems, paper).path, path)

    def test_right_ones(self):
        self.assertIs(check_cover(1, LINE, (LEFT, RIGHT), self.COVER), True)
        self.assertIs(check_cover(paper=self.COVER, systems=(LEFT, RIGHT), system=LINE, count=1), True)
        self.assertIs(check_cover(1, LINE, (LEFT, RIGHT, NOWHERE), self.COVER), True)
        # Weights may be others, and a tree may be opened where it could be closed.
        wide = ("open", (
            ("open", (("bar", ((2, 3), ZERO, (2, 3), ZERO)), ("bar", (ONE, ZERO, ONE, ZERO)))), self.COVER[1][1]))
        self.assertIs(check_cover(1, LINE, (LEFT, RIGHT), wide), True)
        self.assertEqual(cover_paper(1, LINE, (LEFT, RIGHT)), self.COVER)
        self.assertEqual(uncovered(systems=(LEFT, RIGHT), system=LINE, count=1), None)
        self.assertEqual(cover_paper(systems=(LEFT, RIGHT), system=LINE, count=1), self.COVER)

    def test_no_trees(self):
        self.assertIs(check_cover(1, LINE, ((),), ("open", ())), True)
        self.assertIs(check_cover(1, LINE, ((), LEFT), ("open", ())), True)
        self.assertEqual(cover_paper(1, LINE, ((), LEFT)), ("open", ()))
        self.fails(("open", ()), (), LINE, ())
        self.fails(("open", ()), (), LINE, (LEFT,))

    def test_eq_pairs_have_two_denials(self):
        system, other = (("eq", (1, -1, 1)),), (("eq", (2, -2, 1)),)
        paper = ("open", (("bar", ((-2, 1), ONE)), ("bar", ((2, 1), ONE))))
        self.assertIs(check_cover(1, system, (other,), paper), True)
        self.fails(("open", paper[1][:1]), (), system, (other,))
        self.fails(("open", paper[1][::-1]), (0,), system, (other,))
        # x > 1 or x < 1 or, behind them, x < 0.
        mixed = other + (low(0),)
        self.assertIs(check_cover(1, system, (mixed,), ("open", paper[1] + (("bar", (ONE, ONE)),))), True)

    def test_a_first_set_that_holds_nowhere(self):
        for systems in ((), (LEFT,), (LEFT, RIGHT)):
            self.assertIs(check_cover(1, NOWHERE, systems, ("bar", (ONE,))), True)
        self.fails(("bar", (ZERO,)), (), NOWHERE, ())
        self.fails(("bar", (ONE, ONE)), (), NOWHERE, ())
        self.fails(("bar", ()), (), LINE, ())

    def test_the_first_wrong_tree(self):
        cover = self.COVER
        bars = cover[1][1][1]
        for paper, path in (
                (("bar", (ZERO, ZERO)), ()), (("open", cover[1][:1]), ()), (("open", cover[1] + cover[1]), ()), (("open", list(cover[1])), ()),
                (("open", (cover[1][1], cover[1][1])), (0, 0)), (("open", (("bar", (ONE, ZERO)), cover[1][1])), (0,)),
                (("open", (("bar", (ONE, ZERO, ONE, ZERO)), cover[1][1])), (0,)), (("open", (("bar", (ZERO, ONE, ONE)), None)), (0,)),
                (("open", (cover[1][0], None)), (1,)), (("open", (cover[1][0], ("bar", (ONE, ZERO, ONE)))), (1,)),
                (("open", (cover[1][0], ("open", bars[:1]))), (1,)), (("open", (cover[1][0], ("open", bars[::-1]))), (1, 0)),
                (("open", (cover[1][0], ("open", (bars[0], bars[0])))), (1, 1)), (("open", (cover[1][0], ("open", (bars[0], None)))), (1, 1)),
                (("open", (cover[1][0], ("open", (bars[0], ("open", ()))))), (1, 1)), (("open", (None, None)), (0,)),
                (("open", (cover[1][0], ("open", (bars[0], ("bar", (ZERO, ONE, ZERO, (-1, 1))))))), (1, 1)),
                (("open", (cover[1][0], ("open", (("bar", (ZERO, ZERO, ONE, (True, 1))), None)))), (1, 0)),
                (("open", (cover[1][0], ("open", (("bar", (ZERO, ZERO, ONE, (2, 2))), None)))), (1, 0)),
                (("open", (cover[1][0], ("open", (("bar", [ZERO, ZERO, ONE, ONE]), None)))), (1, 0)),
                (("open", cover[1], ()), ()), (("bar",), ()), (("open",), ()), (("Open", cover[1]), ()), (["open", cover[1]], ()),
                (("opens", cover[1]), ()), ((True, cover[1]), ()), ((None, cover[1]), ()), (cover[1], ()), ((cover,), ())):
            self.fails(paper, path)

    def test_any_value(self):
        for value in ANYTHING + (deep_tuple(100), (), ("open", deep_tuple(99)), ("bar", deep_tuple(99))):
            self.fails(value, ())
            self.fails(("open", (value, value)), (0,))
            self.fails(("open", (self.COVER[1][0], ("open", (self.COVER[1][1][1][0], value)))), (1, 1))

    def test_papers_stay_as_they_are(self):
        paper = ("open", [("bar", [ONE])])
        self.fails(paper, ())
        self.assertEqual(paper, ("open", [("bar", [ONE])]))

    def test_leaves_are_bars_of_what_is_chosen(self):
        def look(pairs, systems, tree):
            if tree[0] == "bar":
                self.assertIs(is_bar(count, pairs, tree[1]), True)
            else:
                chosen = denied(systems[0])
                self.assertEqual(len(tree[1]), len(chosen))
                for denial, inner in zip(chosen, tree[1]):
                    look(pairs + (denial,), systems[1:], inner)
        chance = Random(3)
        many = 0
        for _ in range(200):
            count = chance.randint(1, 2)
            system = some_system(chance, count, 3, most=2, constant=2)
            systems = tuple(some_system(chance, count, 1, most=1, constant=3) for _ in range(4))
            if uncovered(count, system, systems) is None:
                look(system, systems, cover_paper(count, system, systems))
                many += 1
        self.assertGreater(many, 30)


class Wrong(unittest.TestCase):
    functions = (uncovered, cover_paper, lambda *arguments: check_cover(*arguments, None))
    plane = (("ge", (1, 0, 0, 1)),)
    great = (("ge", (1, 0, 0, 1)),) * 17

    def test_systems_come_first(self):
        for function in self.functions:
            for value, number in WRONG_SYSTEMS:
                for systems in ((), (None,), (self.great,), (self.plane, None)):
                    with self.subTest(value):
                        self.assertEqual(raised(self, NotSystem, function, 2, value, systems).number, number)

    def test_others_come_next(self):
        for function in self.functions:
            for value, number in WRONG_SYSTEMS:
                for systems in ((value,), (self.plane, value), (value, None), (self.great, value), (self.plane,) * 5 + (value,)):
                    with self.subTest(value):
                        self.assertEqual(raised(self, NotSystem, function, 2, self.plane, systems).number, number)
                        self.assertEqual(raised(self, NotSystem, function, 2, self.plane[:0], systems).number, number)
            self.assertEqual(raised(self, NotSystem, function, 2, (), (((None,) * 3), (1,))).number, 0)

    def test_too_many_pairs_come_next(self):
        nowhere = (("gt", (0, 0, 0, 1)),)
        for function in self.functions:
            for systems in ((self.great,), (self.plane, self.great), (self.great * 3,), ((), (), (), (), (), self.great)):
                for system in ((), self.plane, nowhere):
                    self.assertEqual(raised(self, TooGreat, function, 2, system, systems).most, 16)
        sixteen = (self.great[:16],)
        self.assertIsNotNone(uncovered(2, (), sixteen))
        raised(self, Empty, cover_paper, 2, (), sixteen)
        self.assertEqual(raised(self, NotPaper, check_cover, 2, (), sixteen, None).path, ())

    def test_long_systems_are_the_first_one_alone(self):
        self.assertIsNone(uncovered(2, self.plane * 60, (self.plane * 16,)))
        self.assertEqual(raised(self, TooGreat, uncovered, 2, self.plane * 60, (self.plane * 60,)).most, 16)


if __name__ == "__main__":
    unittest.main()
