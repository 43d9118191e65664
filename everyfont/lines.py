"""Rows broken into lines in one FONT: the least badness, and papers that show it."""

from everyfont.boxes import layout_of
from everyfont.errors import Empty, NotNumber, NotPaper, Unlike
from everyfont.fonts import needed, number_of, numbers_for
from everyfont.formulas import word_of
from everyfont.numbers import ZERO, compared, greatest_of, is_fraction, is_int, minus, total

MOST_PARTS = 16


def check_line_row(formula):
    """Refuse a FORMULA that is no "row" of at most 16 parts that are no rows."""
    if formula[0] != "row" or len(formula) > 1 + MOST_PARTS or any([part[0] == "row" for part in formula[1:]]):
        raise Unlike()


def check_room(value):
    """Refuse any value that is no FRACTION above 0."""
    if not is_fraction(value) or value[0] <= 0:
        raise NotNumber(value)


def are_places(value, low, most):
    """Return whether any value is an ascending tuple of PLACES from low to most."""
    if not isinstance(value, tuple) or not all([is_int(place) and low <= place <= most for place in value]):
        return False
    return all([one < other for one, other in zip(value, value[1:])])


def check_breaks(formula, value):
    """Refuse any value that is no ascending tuple of PLACES between the parts."""
    if not are_places(value, 1, len(formula) - 2):
        raise NotNumber(value)


def is_breaking(breaks, value):
    """Return whether any value is an ascending tuple of some of BREAKS."""
    return are_places(value, 1, MOST_PARTS) and all([place in breaks for place in value])


def lines_of(formula, breaking):
    """Return the pairs (I, J) of the lines of a BREAKING."""
    return list(zip((0,) + breaking, breaking + (len(formula) - 1,)))


class Widths:
    """How wide the parts of a "row" and the space between them are in a FONT; room is None where any line will do."""

    def __init__(self, formula, font, room):
        self.last = len(formula) - 1
        self.wides = [layout_of(part, 0, font).wide for part in formula[1:]]
        self.space = number_of(font, ("space", 0)) if self.last > 1 else ZERO
        self.room = room

    def width(self, first, last):
        """Return how wide a line is."""
        own = self.wides[first]
        for wide in self.wides[first + 1:last]:
            own = total([own, self.space, wide])
        return own

    def badness(self, first, last):
        """Return the badness of a line, None if it is not lawful."""
        left = minus(self.room, self.width(first, last))
        if left[0] < 0:
            return None
        return ZERO if last == self.last else left

    def badness_of(self, lines):
        """Return the greatest badness of lines, None if one is not lawful."""
        found = [self.badness(first, last) for first, last in lines]
        return None if None in found else greatest_of(found)


def check_served(formula, font):
    """Refuse a FORMULA that is no "row" as told, then a FONT that does not serve it."""
    check_line_row(formula)
    numbers_for(font, needed(formula))


def widths_of(formula, font, room):
    """Return the Widths of a "row" in a FONT, for any value as room."""
    check_served(formula, font)
    check_room(room)
    return Widths(formula, font, room)


def line_wide(formula, font, first, last):
    """Return how wide the line between two PLACES is."""
    check_served(formula, font)
    return Widths(formula, font, None).width(first, last)


def breaking_badness(formula, font, room, breaking):
    """Return the badness of any value as BREAKING, None if it is not lawful."""
    widths = widths_of(formula, font, room)
    check_breaks(formula, breaking)
    return widths.badness_of(lines_of(formula, breaking))


def least_badness(formula, font, room, breaks):
    """Return the least badness of a lawful BREAKING, None if there is none."""
    found = Ways(formula, font, room, breaks).breaking()
    return None if found is None else found[0]


def best_breaking(formula, font, room, breaks):
    """Return the lawful BREAKING with the least badness, of several that with the fewest lines, then the least."""
    found = Ways(formula, font, room, breaks).breaking()
    if found is None:
        raise Empty()
    return found[1]


class Ways:
    """The lawful lines between 0, any value as BREAKS, and the last PLACE."""

    def __init__(self, formula, font, room, breaks):
        self.widths = widths_of(formula, font, room)
        check_breaks(formula, breaks)
        self.places = breaks + (len(formula) - 1,)
        self.lines = {}
        for first in range(len(formula) - 1):
            for last in self.places:
                if first < last:
                    self.lines[(first, last)] = self.widths.badness(first, last)

    def badness_within(self, first, last):
        """Return the badness of a line, None if it is not lawful or leads backward."""
        return self.lines.get((first, last), None)

    def breaking(self):
        """Return (badness, BREAKING) of the best one, None if there is no lawful one."""
        # A BREAKING ahead of a PLACE is best by its badness alone; by its lines and PLACES only among those as good.
        last = self.places[-1]
        least = {last: ZERO}
        for first in self.starts():
            ways = [self.joined(first, place, least) for place in self.places]
            ways = [way for way in ways if way is not None]
            if ways:
                least[first] = lesser_of(ways)
        if 0 not in least:
            return None
        return (least[0], self.fewest(least[0]))

    def starts(self):
        """Return the PLACES at which lines begin, the last one first."""
        return list(reversed((0,) + self.places[:-1]))

    def joined(self, first, place, least):
        """Return the badness of a line and of the best ones behind it, None if there are none."""
        own = self.badness_within(first, place)
        if own is None or place not in least:
            return None
        return greatest_of([own, least[place]])

    def fewest(self, most):
        """Return the BREAKING with the fewest lines, of several the least, whose lines have at most this badness."""
        best = {self.places[-1]: (0, ())}
        for first in self.starts():
            ways = []
            for place in self.places:
                own = self.badness_within(first, place)
                if own is not None and place in best and compared(own, most) <= 0:
                    ways.append((best[place][0] + 1, (place,) + best[place][1]))
            if ways:
                best[first] = min(ways)
        return best[0][1][:-1]

    def leads(self, first, last, below):
        """Return whether a line is lawful and has a badness below a FRACTION, None being none."""
        own = self.badness_within(first, last)
        return own is not None and (below is None or compared(own, below) < 0)

    def led_to(self, below):
        """Return the PLACES to which such lines lead from 0, itself among them."""
        found = [0]
        for place in self.places:
            if any([self.leads(first, place, below) for first in found]):
                found.append(place)
        return tuple(found)

    def is_lot(self, lot, below):
        """Return whether any value is a LOT from which such lines lead nowhere else."""
        if not are_places(lot, 0, self.places[-1] - 1) or 0 not in lot:
            return False
        outside = [place for place in self.places if place not in lot]
        return not any([self.leads(first, place, below) for first in lot for place in outside])


def lesser_of(numbers):
    """Return the least of several numbers, one at least."""
    found = numbers[0]
    for number in numbers:
        if compared(number, found) < 0:
            found = number
    return found


def lines_paper(formula, font, room, breaks):
    """Return the LINES PAPER whose LOT is least."""
    ways = Ways(formula, font, room, breaks)
    found = ways.breaking()
    if found is None:
        return ("none", ways.led_to(None))
    badness, breaking = found
    return ("best", breaking, () if badness == ZERO else ways.led_to(badness))


def has_form(value):
    """Return whether any value is a LINES PAPER by its word, its length and its tuples of integers."""
    if word_of(value) not in ("none", "best") or len(value) != (2 if value[0] == "none" else 3):
        return False
    return all([isinstance(thing, tuple) and all([is_int(place) for place in thing]) for thing in value[1:]])


def check_lines(formula, font, room, breaks, value):
    """Return what any value as LINES PAPER shows: None of "none", the badness of "best"."""
    ways = Ways(formula, font, room, breaks)
    if not has_form(value):
        raise NotPaper(("form",))
    badness = None
    if value[0] == "best":
        if is_breaking(breaks, value[1]):
            badness = ways.widths.badness_of(lines_of(formula, value[1]))
        if badness is None:
            raise NotPaper(("breaking",))
    if not (value[2] == () if badness == ZERO else ways.is_lot(value[-1], badness)):
        raise NotPaper(("lot",))
    return badness
