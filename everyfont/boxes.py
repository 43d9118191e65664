"""BOXES: how wide, high and deep a FORMULA is in a FONT, and where its rules and signs are."""

from everyfont.fonts import needed_at, numbers_for
from everyfont.formulas import level_below, thing_at, ways_down
from everyfont.numbers import ZERO, added, greatest_of, halfway, minus, opposite, total
from everyfont.points import shared_bottom


class Level:
    """The numbers of one level of a FONT."""

    def __init__(self, numbers, level):
        self.numbers = numbers
        self.level = level

    def of(self, word):
        """Return the FRACTION of the NAME with this word."""
        return self.numbers[(word, self.level)]

    def sign(self, letters):
        """Return how wide, high and deep a sign is."""
        return [self.numbers[(word, letters, self.level)] for word in ("wide", "high", "deep")]


class Layout:
    """A FORMULA's numbers, its own ITEMS, and for each of its parts the place (X, Y, Layout)."""

    def __init__(self, wide, high, deep, items, places):
        self.wide = wide
        self.high = high
        self.deep = deep
        self.own = items
        self.places = places


def middle(wide, part_wide):
    """Return where a part begins that stands in the middle."""
    return halfway(wide, opposite(part_wide))


def sign_item(letters, level, left):
    """Return the item of a sign on the base line."""
    return (left, ZERO, ("sign", letters, level.level))


def lay_sign(level, formula, parts):
    """Return the Layout of a "sign"; parts, here as below, are the Layouts of its parts."""
    wide, high, deep = level.sign(formula[1])
    return Layout(wide, high, deep, [sign_item(formula[1], level, ZERO)], [])


def lay_row(level, formula, parts):
    """Return the Layout of a "row"."""
    places = [(ZERO, ZERO, parts[0])]
    wide = parts[0].wide
    for part in parts[1:]:
        left = added(wide, level.of("space"))
        places.append((left, ZERO, part))
        wide = added(left, part.wide)
    high = greatest_of([part.high for part in parts])
    deep = greatest_of([part.deep for part in parts])
    return Layout(wide, high, deep, [], places)


def lay_over(level, formula, parts):
    """Return the Layout of an "over"."""
    upper, lower = parts
    axis, rule, gap = level.of("axis"), level.of("rule"), level.of("gap")
    wide = total([greatest_of([upper.wide, lower.wide]), gap, gap])
    up = greatest_of([level.of("rise"), total([axis, rule, gap, upper.deep])])
    down = greatest_of([level.of("fall"), minus(added(gap, lower.high), axis)])
    items = [(ZERO, axis, ("rule", wide, rule))]
    places = [(middle(wide, upper.wide), up, upper), (middle(wide, lower.wide), opposite(down), lower)]
    return Layout(wide, added(up, upper.high), added(down, lower.deep), items, places)


def lay_root(level, formula, parts):
    """Return the Layout of a "root"."""
    part = parts[0]
    rule, gap = level.of("rule"), level.of("gap")
    wide = total([rule, gap, gap, part.wide])
    above, below = added(part.high, gap), added(part.deep, gap)
    high = added(above, rule)
    items = [(ZERO, opposite(below), ("rule", rule, added(below, high))), (ZERO, above, ("rule", wide, rule))]
    return Layout(wide, high, below, items, [(added(rule, gap), ZERO, part)])


def lay_fence(level, formula, parts):
    """Return the Layout of a "fence"."""
    part = parts[0]
    rule, gap = level.of("rule"), level.of("gap")
    right = total([rule, gap, gap, part.wide])
    above, below = added(part.high, gap), added(part.deep, gap)
    side = ("rule", rule, added(below, above))
    items = [(ZERO, opposite(below), side), (right, opposite(below), side)]
    return Layout(added(right, rule), above, below, items, [(added(rule, gap), ZERO, part)])


def lay_bar(level, formula, parts):
    """Return the Layout of a "bar"."""
    part = parts[0]
    rule, above = level.of("rule"), added(part.high, level.of("gap"))
    items = [(ZERO, above, ("rule", part.wide, rule))]
    return Layout(part.wide, added(above, rule), part.deep, items, [(ZERO, ZERO, part)])


def lay_high(level, formula, parts):
    """Return the Layout of a "high"."""
    return lay_scripts(level, parts[0], None, parts[1])


def lay_low(level, formula, parts):
    """Return the Layout of a "low"."""
    return lay_scripts(level, parts[0], parts[1], None)


def lay_both(level, formula, parts):
    """Return the Layout of a "both"."""
    return lay_scripts(level, parts[0], parts[1], parts[2])


def lay_scripts(level, base, lowered, raised):
    """Return the Layout of a base with a lowered part, a raised one, or both; None for what it has not."""
    highs, deeps, places = [base.high], [base.deep], []
    if lowered is not None:
        fall = level.of("fall")
        down = greatest_of([fall, base.deep])
        highs.append(minus(lowered.high, fall))
        deeps.append(added(down, lowered.deep))
        places.append((base.wide, opposite(down), lowered))
    if raised is not None:
        rise = level.of("rise")
        up = greatest_of([rise, minus(base.high, rise)])
        highs.append(added(up, raised.high))
        deeps.append(minus(raised.deep, rise))
        places.append((base.wide, up, raised))
    wide = added(base.wide, greatest_of([part.wide for _, _, part in places]))
    return Layout(wide, greatest_of(highs), greatest_of(deeps), [], [(ZERO, ZERO, base)] + places)


def lay_under(level, formula, parts):
    """Return the Layout of an "under"."""
    return lay_limits_of(level, formula[1], parts[0], None)


def lay_upper(level, formula, parts):
    """Return the Layout of an "upper"."""
    return lay_limits_of(level, formula[1], None, parts[0])


def lay_limits(level, formula, parts):
    """Return the Layout of a "limits"."""
    return lay_limits_of(level, formula[1], parts[0], parts[1])


def lay_limits_of(level, letters, below, above):
    """Return the Layout of a sign with a part beneath, one above, or both; None for what it has not."""
    sign_wide, high, deep = level.sign(letters)
    gap = level.of("gap")
    wide = greatest_of([sign_wide] + [part.wide for part in (below, above) if part is not None])
    # An upper part stands on the sign, a part beneath hangs from it: each of them is told by the sign's own numbers.
    top, bottom, places = high, deep, []
    if below is not None:
        down = greatest_of([level.of("fall"), total([deep, gap, below.high])])
        bottom = added(down, below.deep)
        places.append((middle(wide, below.wide), opposite(down), below))
    if above is not None:
        up = greatest_of([level.of("rise"), total([high, gap, above.deep])])
        top = added(up, above.high)
        places.append((middle(wide, above.wide), up, above))
    return Layout(wide, top, bottom, [sign_item(letters, level, middle(wide, sign_wide))], places)


def columns_of_cells(level, cells):
    """Return for each column of a table (LEFT, WIDE), and where the last one ends."""
    left = added(level.of("rule"), level.of("gap"))
    columns = []
    for number in range(len(cells[0])):
        if number > 0:
            left = total([left, level.of("space"), level.of("gap")])
        wide = greatest_of([row[number].wide for row in cells])
        columns.append((left, wide))
        left = added(left, wide)
    return columns, left


def bases_of_rows(level, cells):
    """Return how far each row's base line is below the top of a table, and how far its bottom is."""
    depth = ZERO
    bases = []
    for number, row in enumerate(cells):
        if number > 0:
            depth = added(depth, level.of("gap"))
        bases.append(added(depth, greatest_of([cell.high for cell in row])))
        depth = added(bases[-1], greatest_of([cell.deep for cell in row]))
    return bases, depth


def lay_table(level, formula, parts):
    """Return the Layout of a "table"."""
    many = len(formula[1][0])
    cells = [parts[first:first + many] for first in range(0, len(parts), many)]
    axis, rule = level.of("axis"), level.of("rule")
    columns, right = columns_of_cells(level, cells)
    bases, height = bases_of_rows(level, cells)
    half = halfway(height, ZERO)
    top, below = added(axis, half), minus(half, axis)
    places = []
    for base, row in zip(bases, cells):
        for (left, wide), cell in zip(columns, row):
            places.append((added(left, middle(wide, cell.wide)), minus(top, base), cell))
    right = added(right, level.of("gap"))
    side = ("rule", rule, height)
    items = [(ZERO, opposite(below), side), (right, opposite(below), side)]
    return Layout(added(right, rule), greatest_of([ZERO, top]), greatest_of([ZERO, below]), items, places)


LAYERS = {
    "sign": lay_sign,
    "row": lay_row,
    "over": lay_over,
    "root": lay_root,
    "high": lay_high,
    "low": lay_low,
    "both": lay_both,
    "under": lay_under,
    "upper": lay_upper,
    "limits": lay_limits,
    "fence": lay_fence,
    "bar": lay_bar,
    "table": lay_table,
}


def lay(formula, level, numbers):
    """Return the Layout of a FORMULA at a level, with the FRACTIONS of a FONT by their NAMES."""
    parts = []
    for way in ways_down(formula):
        parts.append(lay(thing_at(formula, way), level_below(formula, level, way), numbers))
    layer = LAYERS[formula[0]]
    return layer(Level(numbers, level), formula, parts)


def layout_of(formula, level, font):
    """Return the Layout of a FORMULA at a level in a FONT that has all NAMES that it needs."""
    return lay(formula, level, numbers_for(font, needed_at(formula, level)))


def spots_of(layout, left, base):
    """Return (X, Y, Layout) for it and all in it, itself at (left, base), in the order of paths_of."""
    spots = [(left, base, layout)]
    for part_left, part_base, part in layout.places:
        spots.extend(spots_of(part, added(left, part_left), added(base, part_base)))
    return spots


def items_of(layout):
    """Return the sorted ITEMS of a Layout and all in it."""
    items = []
    for left, base, inner in spots_of(layout, ZERO, ZERO):
        items.extend([(added(left, right), added(base, up), thing) for right, up, thing in inner.own])
    return sorted_items(items)


def sorted_items(items):
    """Return the tuple of ITEMS, sorted by the values of their numbers."""
    bottoms = []
    for left, base, thing in items:
        bottoms.extend([left[1], base[1]])
        if thing[0] == "rule":
            bottoms.extend([thing[1][1], thing[2][1]])
    bottom = shared_bottom(bottoms)
    keyed = [(item_key(item, bottom), item) for item in items]
    return tuple([item for _, item in sorted(keyed)])


def item_key(item, bottom):
    """Return what an item is sorted by, its numbers as integers over a shared bottom."""
    left, base, thing = item
    key = (left[0] * (bottom // left[1]), base[0] * (bottom // base[1]))
    if thing[0] == "rule":
        _, wide, high = thing
        return key + (0, wide[0] * (bottom // wide[1]), high[0] * (bottom // high[1]))
    return key + (1, thing[1], thing[2])


def box_at(formula, level, font):
    """Return the BOX of a FORMULA at a level."""
    layout = layout_of(formula, level, font)
    return (layout.wide, layout.high, layout.deep, items_of(layout))


def box_of(formula, font):
    """Return the BOX of a FORMULA at level 0."""
    return box_at(formula, 0, font)
