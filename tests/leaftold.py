"""The ROWS OF A LEAF by the words of the document, with Python's fractions; and whether weights show that they cannot hold.

A row is a dict of fractions: by a NAME, by the number of a STEP, or by None for the constant.
"""

from fractions import Fraction
from math import lcm

from everyfont.families import family_pairs
from everyfont.spans import step_bounds
from everyfont.steps import numbers_of_part, steps_of


def times_added(row, other, factor=1):
    """Add another row times a number to a row, and return it."""
    for thing, share in other.items():
        row[thing] = row.get(thing, 0) + share * factor
    return row


class Rows:
    """The rows of a FORMULA and a FAMILY."""

    def __init__(self, formula, family):
        self.formula, self.family = formula, family
        self.steps, self.bounds = steps_of(formula), step_bounds(formula, family)
        self.fixed = dict(family[1])

    def thing(self, thing):
        if isinstance(thing, int) or thing is None or thing in self.family[0]:
            return {thing: Fraction(1)}
        if thing in self.fixed:
            return {None: Fraction(*self.fixed[thing])}
        wide, high, deep, left, base = numbers_of_part(self.formula, thing[0])
        return {
            "left": {left: 1}, "base": {base: 1}, "right": {left: 1, wide: 1}, "top": {base: 1, high: 1},
            "bottom": {base: 1, deep: -1}}[thing[1]]

    def sum(self, pairs):
        row = {}
        for thing, share in pairs:
            times_added(row, self.thing(thing), Fraction(*share))
        return row

    def settled(self, things):
        """Return the number of the member that settles a "greatest", None if none does."""
        for number, thing in enumerate(things):
            low = self.bounds[thing][0]
            others = [self.bounds[other][1] for place, other in enumerate(things) if place != number]
            if not others or (low is not None and None not in others and all(Fraction(*low) >= Fraction(*high) for high in others)):
                return number
        return None

    def block(self, number, splits):
        word, things = self.steps[number]
        if word == "sum":
            return [("eq", times_added(self.sum(things), {number: -1}))]
        chosen = splits.get(number, self.settled(things))
        if chosen is not None:
            kept = things[chosen]
            rows = [("eq", {kept: 1, number: -1})]
            return rows + [("ge", {kept: 1, other: -1}) for place, other in enumerate(things) if place != chosen]
        rows = [("ge", {number: 1, other: -1}) for other in things]
        highs = [self.bounds[other][1] for other in things]
        if None not in highs:
            rows.append(("ge", {None: max(Fraction(*high) for high in highs), number: -1}))
        return rows

    def leaf(self, splits, case):
        """Return the ROWS OF A LEAF."""
        rows = []
        for word, row in family_pairs(self.family):
            numbers = [Fraction(top, row[-1]) for top in row[:-1]]
            rows.append((word, dict(zip(self.family[0] + (None,), numbers))))
        for number in range(len(self.steps)):
            rows.extend(self.block(number, dict(splits)))
        if case is not None:
            rows.extend((word, self.sum(pairs)) for word, pairs in case)
        return rows

    def as_row(self, row):
        """Return the ROW over the FAMILY's NAMES and then all STEPS."""
        numbers = [Fraction(row.get(thing, 0)) for thing in self.family[0] + tuple(range(len(self.steps))) + (None,)]
        bottom = lcm(*(number.denominator for number in numbers))
        return tuple(int(number * bottom) for number in numbers) + (bottom,)


def shows_nothing_left(rows, weights):
    """Return whether weights show that rows cannot all hold."""
    if len(weights) != len(rows) or any(weight[0] < 0 and word != "eq" for (word, _), weight in zip(rows, weights)):
        return False
    total = {None: Fraction(0)}
    for (_, row), weight in zip(rows, weights):
        if weight[0]:
            times_added(total, row, Fraction(*weight))
    strict = any(weight[0] > 0 and word == "gt" for (word, _), weight in zip(rows, weights))
    constant = total.pop(None)
    return not any(total.values()) and (constant < 0 or (constant == 0 and strict))


def is_tree(rows, cases, tree, splits=(), case=None):
    """Return whether a value of the form of a TREE shows that a claim holds, by the words of the document."""
    if tree[0] == "bar":
        return shows_nothing_left(rows.leaf(splits, case), tree[1])
    if tree[0] == "case":
        return case is None and len(tree[1]) == len(cases) and all(
            is_tree(rows, cases, own, splits, way) for own, way in zip(tree[1], cases))
    _, step, trees = tree
    return step not in dict(splits) and rows.steps[step][0] == "greatest" and len(trees) == len(rows.steps[step][1]) and all(
        is_tree(rows, cases, own, splits + ((step, member),), case) for member, own in enumerate(trees))
