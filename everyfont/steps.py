"""STEPS: how the numbers of a FORMULA's box, and the places of its parts, follow from a FONT's numbers one by one."""

from everyfont.fonts import needed, numbers_for
from everyfont.formulas import found_at, level_below, paths_of, thing_at, ways_down
from everyfont.numbers import MINUS_ONE, ONE, ZERO, added, greatest_of, times, total

HALF = (1, 2)


def each(things, share):
    """Return pairs (THING, FRACTION) with the same FRACTION."""
    return [(thing, share) for thing in things]


def plus(things):
    """Return the pairs that add THINGS."""
    return each(things, ONE)


def less(things):
    """Return the pairs that take THINGS away."""
    return each(things, MINUS_ONE)


def so_often(number, things):
    """Return the pairs that add THINGS so many times."""
    return each(things, (number, 1))


def middle(wide, part_wide):
    """Return the pairs that tell where a part begins that stands in the middle."""
    return [(wide, HALF), (part_wide, (-1, 2))]


def in_order(pairs):
    """Return the SUM of pairs (THING, FRACTION), THINGS being NAMES and numbers: each once, NAMES ahead."""
    shares = {}
    for thing, share in pairs:
        shares[thing] = added(shares.get(thing, ZERO), share)
    left = [thing for thing in shares if shares[thing] != ZERO]
    names = sorted([thing for thing in left if isinstance(thing, tuple)])
    numbers = sorted([thing for thing in left if not isinstance(thing, tuple)])
    return tuple([(thing, shares[thing]) for thing in names + numbers])


class Part:
    """The numbers of a FORMULA's own STEPS, and for each of its parts (X, Y), as lists of pairs (THING, FRACTION)."""

    def __init__(self, wide, high, deep, places):
        self.wide = wide
        self.high = high
        self.deep = deep
        self.places = places
        self.parts = []
        self.left = None
        self.base = None


class Writer:
    """The STEPS that are written so far."""

    def __init__(self):
        self.steps = []

    def write(self, word, things):
        """Write a STEP and return its number."""
        self.steps.append((word, things))
        return len(self.steps) - 1

    def tell(self, pairs):
        """Write the sum of pairs (THING, FRACTION) and return its number."""
        return self.write("sum", in_order(pairs))

    def greatest(self, numbers):
        """Write the greatest of STEPS and return its number."""
        return self.write("greatest", tuple(numbers))


def write_sign(steps, level, formula, parts):
    """Write the STEPS of a "sign" and return its Part; parts, here as below, are the Parts of its parts."""
    wide, high, deep = [steps.tell(plus([(word, formula[1], level)])) for word in ("wide", "high", "deep")]
    return Part(wide, high, deep, [])


def write_row(steps, level, formula, parts):
    """Write the STEPS of a "row" and return its Part."""
    wides = [part.wide for part in parts]
    space = ("space", level)
    wide = steps.tell(plus(wides) + so_often(len(parts) - 1, [space]))
    high = steps.greatest([part.high for part in parts])
    deep = steps.greatest([part.deep for part in parts])
    return Part(wide, high, deep, [(plus(wides[:ahead]) + so_often(ahead, [space]), []) for ahead in range(len(parts))])


def write_over(steps, level, formula, parts):
    """Write the STEPS of an "over" and return its Part."""
    upper, lower = parts
    axis, rule, gap = ("axis", level), ("rule", level), ("gap", level)
    widest = steps.greatest([upper.wide, lower.wide])
    rise = steps.tell(plus([("rise", level)]))
    up = steps.greatest([rise, steps.tell(plus([axis, rule, gap, upper.deep]))])
    fall = steps.tell(plus([("fall", level)]))
    down = steps.greatest([fall, steps.tell(plus([gap, lower.high]) + less([axis]))])
    wide = steps.tell(plus([widest, gap, gap]))
    high = steps.tell(plus([up, upper.high]))
    deep = steps.tell(plus([down, lower.deep]))
    places = [(middle(wide, upper.wide), plus([up])), (middle(wide, lower.wide), less([down]))]
    return Part(wide, high, deep, places)


def write_root(steps, level, formula, parts):
    """Write the STEPS of a "root" and return its Part."""
    part = parts[0]
    rule, gap = ("rule", level), ("gap", level)
    wide = steps.tell(plus([rule, gap, gap, part.wide]))
    high = steps.tell(plus([part.high, gap, rule]))
    return Part(wide, high, steps.tell(plus([part.deep, gap])), [(plus([rule, gap]), [])])


def write_fence(steps, level, formula, parts):
    """Write the STEPS of a "fence" and return its Part."""
    part = parts[0]
    rule, gap = ("rule", level), ("gap", level)
    wide = steps.tell(plus([part.wide]) + so_often(2, [rule, gap]))
    high = steps.tell(plus([part.high, gap]))
    return Part(wide, high, steps.tell(plus([part.deep, gap])), [(plus([rule, gap]), [])])


def write_bar(steps, level, formula, parts):
    """Write the STEPS of a "bar" and return its Part."""
    part = parts[0]
    wide = steps.tell(plus([part.wide]))
    high = steps.tell(plus([part.high, ("gap", level), ("rule", level)]))
    return Part(wide, high, steps.tell(plus([part.deep])), [([], [])])


def write_down(steps, level, base):
    """Write how far below a base its lowered part stands, and return the number of this."""
    fall = steps.tell(plus([("fall", level)]))
    return steps.greatest([fall, steps.tell(plus([base.deep]))])


def write_up(steps, level, base):
    """Write how far above a base its raised part stands, and return the number of this."""
    rise = steps.tell(plus([("rise", level)]))
    return steps.greatest([rise, steps.tell(plus([base.high]) + less([("rise", level)]))])


def write_high(steps, level, formula, parts):
    """Write the STEPS of a "high" and return its Part."""
    base, raised = parts
    up = write_up(steps, level, base)
    high = steps.greatest([base.high, steps.tell(plus([up, raised.high]))])
    deep = steps.greatest([base.deep, steps.tell(plus([raised.deep]) + less([("rise", level)]))])
    wide = steps.tell(plus([base.wide, raised.wide]))
    places = [([], []), (plus([base.wide]), plus([up]))]
    return Part(wide, steps.tell(plus([high])), steps.tell(plus([deep])), places)


def write_low(steps, level, formula, parts):
    """Write the STEPS of a "low" and return its Part."""
    base, lowered = parts
    down = write_down(steps, level, base)
    high = steps.greatest([base.high, steps.tell(plus([lowered.high]) + less([("fall", level)]))])
    deep = steps.greatest([base.deep, steps.tell(plus([down, lowered.deep]))])
    wide = steps.tell(plus([base.wide, lowered.wide]))
    places = [([], []), (plus([base.wide]), less([down]))]
    return Part(wide, steps.tell(plus([high])), steps.tell(plus([deep])), places)


def write_both(steps, level, formula, parts):
    """Write the STEPS of a "both" and return its Part."""
    base, lowered, raised = parts
    down = write_down(steps, level, base)
    up = write_up(steps, level, base)
    low_high = steps.tell(plus([lowered.high]) + less([("fall", level)]))
    high = steps.greatest([base.high, low_high, steps.tell(plus([up, raised.high]))])
    low_deep = steps.tell(plus([down, lowered.deep]))
    deep = steps.greatest([base.deep, low_deep, steps.tell(plus([raised.deep]) + less([("rise", level)]))])
    widest = steps.greatest([lowered.wide, raised.wide])
    wide = steps.tell(plus([base.wide, widest]))
    places = [([], []), (plus([base.wide]), less([down])), (plus([base.wide]), plus([up]))]
    return Part(wide, steps.tell(plus([high])), steps.tell(plus([deep])), places)


def write_widest(steps, level, letters, parts):
    """Write how wide a sign and the parts above and beneath it are together, and return the number of this."""
    wide = steps.tell(plus([("wide", letters, level)]))
    return steps.greatest([wide] + [part.wide for part in parts])


def write_beneath(steps, level, letters, part):
    """Write how far below a sign the part beneath it stands, and return the number of this."""
    fall = steps.tell(plus([("fall", level)]))
    return steps.greatest([fall, steps.tell(plus([("deep", letters, level), ("gap", level), part.high]))])


def write_above(steps, level, letters, part):
    """Write how far above a sign the part above it stands, and return the number of this."""
    rise = steps.tell(plus([("rise", level)]))
    return steps.greatest([rise, steps.tell(plus([("high", letters, level), ("gap", level), part.deep]))])


def write_under(steps, level, formula, parts):
    """Write the STEPS of an "under" and return its Part."""
    part, letters = parts[0], formula[1]
    widest = write_widest(steps, level, letters, parts)
    down = write_beneath(steps, level, letters, part)
    wide = steps.tell(plus([widest]))
    high = steps.tell(plus([("high", letters, level)]))
    deep = steps.tell(plus([down, part.deep]))
    return Part(wide, high, deep, [(middle(wide, part.wide), less([down]))])


def write_upper(steps, level, formula, parts):
    """Write the STEPS of an "upper" and return its Part."""
    part, letters = parts[0], formula[1]
    widest = write_widest(steps, level, letters, parts)
    up = write_above(steps, level, letters, part)
    wide = steps.tell(plus([widest]))
    high = steps.tell(plus([up, part.high]))
    deep = steps.tell(plus([("deep", letters, level)]))
    return Part(wide, high, deep, [(middle(wide, part.wide), plus([up]))])


def write_limits(steps, level, formula, parts):
    """Write the STEPS of a "limits" and return its Part."""
    beneath, above = parts
    letters = formula[1]
    widest = write_widest(steps, level, letters, parts)
    down = write_beneath(steps, level, letters, beneath)
    up = write_above(steps, level, letters, above)
    wide = steps.tell(plus([widest]))
    high = steps.tell(plus([up, above.high]))
    deep = steps.tell(plus([down, beneath.deep]))
    places = [(middle(wide, beneath.wide), less([down])), (middle(wide, above.wide), plus([up]))]
    return Part(wide, high, deep, places)


def write_table(steps, level, formula, parts):
    """Write the STEPS of a "table" and return its Part."""
    columns = len(formula[1][0])
    cells = [parts[first:first + columns] for first in range(0, len(parts), columns)]
    axis, rule, gap, space = ("axis", level), ("rule", level), ("gap", level), ("space", level)
    wides = [steps.greatest([row[number].wide for row in cells]) for number in range(columns)]
    sides = []
    for row in cells:
        sides.extend([steps.greatest([cell.high for cell in row]), steps.greatest([cell.deep for cell in row])])
    height = steps.tell(plus(sides) + so_often(len(cells) - 1, [gap]))
    nothing = steps.tell([])
    top = steps.tell(plus([axis]) + each([height], HALF))
    below = steps.tell(less([axis]) + each([height], HALF))
    high = steps.greatest([nothing, top])
    deep = steps.greatest([nothing, below])
    wide = steps.tell(so_often(2, [rule, gap]) + plus(wides) + so_often(columns - 1, [space, gap]))
    places = []
    for number, row in enumerate(cells):
        base = plus([top]) + less(sides[:2 * number + 1]) + so_often(-number, [gap])
        for ahead, cell in enumerate(row):
            left = plus([rule, gap] + wides[:ahead]) + so_often(ahead, [space, gap])
            places.append((left + middle(wides[ahead], cell.wide), base))
    return Part(wide, steps.tell(plus([high])), steps.tell(plus([deep])), places)


WRITERS = {
    "sign": write_sign,
    "row": write_row,
    "over": write_over,
    "root": write_root,
    "high": write_high,
    "low": write_low,
    "both": write_both,
    "under": write_under,
    "upper": write_upper,
    "limits": write_limits,
    "fence": write_fence,
    "bar": write_bar,
    "table": write_table,
}


def write_sizes(steps, formula, level):
    """Write the STEPS of a FORMULA's box numbers, those of its parts ahead, and return its Part."""
    parts = []
    for way in ways_down(formula):
        parts.append(write_sizes(steps, thing_at(formula, way), level_below(formula, level, way)))
    writer = WRITERS[formula[0]]
    part = writer(steps, level, formula, parts)
    part.parts = parts
    return part


def write_places(steps, part, left, base):
    """Write where a Part and all in it are, itself at two lists of pairs; return them in the order of paths_of."""
    part.left = steps.tell(left)
    part.base = steps.tell(base)
    found = [part]
    for (right, up), inner in zip(part.places, part.parts):
        found.extend(write_places(steps, inner, plus([part.left]) + right, plus([part.base]) + up))
    return found


class Written:
    """The STEPS of a FORMULA, of which the first so many tell sizes, and the Parts of all in it by their PATHS."""

    def __init__(self, formula):
        writer = Writer()
        whole = write_sizes(writer, formula, 0)
        self.sizes = len(writer.steps)
        self.parts = dict(zip(paths_of(formula), write_places(writer, whole, [], [])))
        self.steps = tuple(writer.steps)


def steps_of(formula):
    """Return the STEPS of a FORMULA."""
    return Written(formula).steps


def numbers_of_part(formula, path):
    """Return the numbers (W, H, D, LEFT, BASE) of the STEPS of the FORMULA at any value as PATH."""
    found_at(formula, path)
    part = Written(formula).parts[path]
    return (part.wide, part.high, part.deep, part.left, part.base)


def step_values(formula, font):
    """Return the FRACTIONS of all STEPS of a FORMULA in a FONT."""
    return values_of(steps_of(formula), numbers_for(font, needed(formula)))


def values_of(steps, numbers):
    """Return the FRACTIONS of STEPS, with the FRACTIONS of a FONT by their NAMES."""
    values = []
    for word, things in steps:
        if word == "greatest":
            values.append(greatest_of([values[number] for number in things]))
        else:
            values.append(sum_value(things, numbers, values))
    return tuple(values)


def sum_value(pairs, numbers, values):
    """Return the FRACTION of a SUM of NAMES, numbers of STEPS and None, with the FRACTIONS of both."""
    return total([times(share, thing_value(thing, numbers, values)) for thing, share in pairs])


def thing_value(thing, numbers, values):
    """Return the FRACTION of a NAME, of the number of a STEP, or of None."""
    if thing is None:
        return ONE
    return numbers[thing] if isinstance(thing, tuple) else values[thing]
