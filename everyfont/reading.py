"""Reading a FORMULA back from its ITEMS in the clear font.

There all FORMULAS of one level that stand side by side share a base line; whatever is of a further level and above it
is raised, whatever is below it is lowered; and no sum of other numbers is by chance as great as a space is.
"""

from everyfont.boxes import box_of, lay
from everyfont.clear import clear_font
from everyfont.entries import check_items, doubled, entry_of
from everyfont.errors import NotPicture
from everyfont.fonts import needed_at
from everyfont.formulas import MOST_DEPTH, MOST_WORDS, depth_of


def read_picture(names, items):
    """Return the plain form of the FORMULA without tables that has any value as its ITEMS in the clear font."""
    check_items(items)
    font = clear_font(names)
    formula = Picture(font).read(items)
    if depth_of(formula) > MOST_DEPTH:
        raise NotPicture(None)
    # Whatever was taken for granted on the way is so exactly if the FORMULA looks like this.
    if box_of(formula, font)[3] != items:
        raise NotPicture(None)
    return formula


class Picture:
    """The clear font, and how many words can still be read."""

    def __init__(self, font):
        self.numbers = {name: number for name, number in font}
        self.levels = {doubled(number): name[1] for name, number in font if name[0] == "rule"}
        self.spare = MOST_WORDS

    def read(self, items):
        """Return the FORMULA of all ITEMS."""
        entries = [entry_of(item, self.levels) for item in items]
        return Line(self, 0, 0, entries).row_at(0, None, 1)

    def spend(self):
        """Count one word."""
        if self.spare == 0:
            raise NotPicture(None)
        self.spare -= 1

    def length(self, name):
        """Return the doubled number of a NAME."""
        if name not in self.numbers:
            raise NotPicture(None)
        return doubled(self.numbers[name])

    def layout(self, formula, level):
        """Return the Layout of a FORMULA at a level."""
        for name in needed_at(formula, level):
            self.length(name)
        return lay(formula, level, self.numbers)


def is_ahead(place, limit):
    """Return whether a place is ahead of a limit, None being none."""
    return limit is None or place < limit


def is_roof(entry, upright):
    """Return whether a rule across is that of the "root" with an upright one: it ends as high above."""
    return entry.kind == "across" and entry.base + entry.high == upright.base + upright.high


class Line:
    """A base line of a level: its own entries, and those of further levels above and below it.

    Where one begins is told by left, where it has to end by limit; depth is how deep what is read stands.
    """

    def __init__(self, picture, level, base, entries):
        self.picture = picture
        self.level = level
        self.base = base
        self.own = [entry for entry in entries if entry.level == level]
        self.above = [entry for entry in entries if entry.level > level and entry.base > base]
        self.below = [entry for entry in entries if entry.level > level and entry.base <= base]

    def length(self, word):
        """Return the doubled number of this level with a word."""
        return self.picture.length((word, self.level))

    def layout(self, formula):
        """Return the Layout of a FORMULA on the line."""
        return self.picture.layout(formula, self.level)

    def behind(self, formula, left):
        """Return where a FORMULA ends that begins at left."""
        return left + doubled(self.layout(formula).wide)

    def is_begun(self, place, limit):
        """Return whether something begins at a place ahead of a limit."""
        if not is_ahead(place, limit):
            return False
        return any([entry.left == place for entry in self.own + self.above + self.below])

    def row_at(self, left, limit, depth):
        """Return the FORMULA at left, a "row" if several parts are there."""
        return self.row_under(left, limit, self.bars_at(left), depth)

    def row_under(self, left, limit, bars, depth):
        """Return the same, the first part having these bars alone."""
        if depth > MOST_DEPTH:
            raise NotPicture(None)
        parts = [self.part_under(left, limit, bars, depth)]
        end = self.behind(parts[0], left)
        while ("space", self.level) in self.picture.numbers and self.is_begun(end + self.length("space"), limit):
            left = end + self.length("space")
            parts.append(self.part_under(left, limit, self.bars_at(left), depth))
            end = self.behind(parts[-1], left)
        if len(parts) == 1:
            return parts[0]
        self.picture.spend()
        return ("row",) + tuple(parts)

    def bars_at(self, left):
        """Return the entries of the bars that begin at left, the inner ones first."""
        upright = self.upright_at(left)
        found = []
        for entry in self.own:
            if entry.kind == "across" and entry.left == left and not self.is_over(entry):
                if upright is None or not is_roof(entry, upright):
                    found.append((entry.base, entry.wide, entry))
        return [entry for _, _, entry in sorted(found, key=lambda bar: (bar[0], bar[1]))]

    def upright_at(self, left):
        """Return the entry of an upright rule at left, None if there is none."""
        for entry in self.own:
            if entry.kind == "upright" and entry.left == left:
                return entry
        return None

    def is_over(self, entry):
        """Return whether a rule across is that of an "over"."""
        axis = ("axis", self.level)
        return axis in self.picture.numbers and entry.base == self.base + self.picture.length(axis)

    def part_under(self, left, limit, bars, depth):
        """Return the FORMULA at left that is no "row"."""
        self.picture.spend()
        if bars:
            part = ("bar", self.row_under(left, left + bars[-1].wide, bars[:-1], depth + 1))
        else:
            part = self.core_at(left, limit, depth)
        return self.with_scripts(part, left, limit, depth)

    def with_scripts(self, part, left, limit, depth):
        """Return a FORMULA at left with the raised and lowered parts behind it."""
        place = self.behind(part, left)
        lowered = raised = None
        if is_ahead(place, limit) and any([entry.left == place for entry in self.below]):
            down = max(self.length("fall"), doubled(self.layout(part).deep))
            lowered = self.further(self.below, self.base - down).row_at(place, limit, depth + 1)
        if is_ahead(place, limit) and any([entry.left == place for entry in self.above]):
            raised = self.further(self.above, self.base + self.length("rise")).row_at(place, limit, depth + 1)
        if lowered is None and raised is None:
            return part
        self.picture.spend()
        if raised is None:
            return ("low", part, lowered)
        return ("high", part, raised) if lowered is None else ("both", part, lowered, raised)

    def further(self, entries, base):
        """Return the Line of the next level with these entries."""
        return Line(self.picture, self.level + 1, base, entries)

    def core_at(self, left, limit, depth):
        """Return the FORMULA at left without its bars and its raised and lowered parts."""
        upright = self.upright_at(left)
        if upright is not None:
            return self.fenced_at(upright, limit, depth)
        for entry in self.own:
            if entry.kind == "across" and entry.left == left and self.is_over(entry):
                above = self.middle_above(left, left + entry.wide, depth)
                below = self.middle_below(left, left + entry.wide, depth)
                if above is None or below is None:
                    raise NotPicture(None)
                return ("over", above, below)
        return self.sign_at(left, depth)

    def fenced_at(self, upright, limit, depth):
        """Return the "root" or "fence" that begins with an upright rule."""
        word = "fence"
        for entry in self.own:
            if entry.left == upright.left and is_roof(entry, upright):
                word = "root"
        start = upright.left + self.length("rule") + self.length("gap")
        return (word, self.row_at(start, limit, depth + 1))

    def sign_at(self, left, depth):
        """Return the sign at left, with the parts above and beneath it, which may be wider than the sign."""
        signs = [entry for entry in self.own if entry.kind == "sign" and entry.left >= left]
        if not signs:
            raise NotPicture(None)
        letters = signs[0].letters
        right = 2 * signs[0].left - left + self.picture.length(("wide", letters, self.level))
        above = self.middle_above(left, right, depth)
        below = self.middle_below(left, right, depth)
        if above is None:
            return ("sign", letters) if below is None else ("under", letters, below)
        return ("upper", letters, above) if below is None else ("limits", letters, below, above)

    def middle_above(self, left, right, depth):
        """Return the FORMULA above, in the middle between two places, None if there is none."""
        return self.middle(self.above, "rise", 1, left, right, depth)

    def middle_below(self, left, right, depth):
        """Return the FORMULA below, in the middle between two places, None if there is none."""
        return self.middle(self.below, "fall", -1, left, right, depth)

    def middle(self, entries, word, sign, left, right, depth):
        """Return the FORMULA of those of some entries that begin between two places, None if there are none."""
        inside = [entry for entry in entries if left <= entry.left < right]
        if not inside:
            return None
        line = self.further(inside, self.base + sign * self.length(word))
        return line.row_at(inside[0].left, None, depth + 1)
