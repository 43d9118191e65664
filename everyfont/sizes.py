"""The greatest and the least size of a FORMULA over a FAMILY, and PAPERS that show them."""

from everyfont.best import climbed, is_endless_way, is_of_kind, shown
from everyfont.errors import Endless, NotName, NotPaper
from everyfont.expressions import box_tops
from everyfont.families import family_pairs, need_served
from everyfont.formulas import word_of
from everyfont.heights import less_height, lifted, over, without_height
from everyfont.numbers import ONE, compared, greatest_of, total
from everyfont.rows import constant_row, row_added, row_minus, weighted_row
from everyfont.simplex import Table
from everyfont.systems import are_signed, first_false, is_strict, is_weights, loosened
from everyfont.tops import top_value

SIZE_WORDS = ("wide", "high", "deep")
SIDES = ("most", "least")

# What stands behind each word of a PAPER of a side.
PAPERS = {
    ("most", "endless"): ("point", "way"),
    ("most", "met"): ("point", "lots"),
    ("most", "near"): ("point", "point", "lots"),
    ("least", "met"): ("point", "shares", "weights"),
    ("least", "near"): ("point", "point", "shares", "weights"),
}


class Size:
    """The PAIRS of a FAMILY and the SIZE ROWS of a FORMULA over it."""

    def __init__(self, family, rows):
        self.count = len(family[0])
        self.pairs = family_pairs(family)
        self.rows = rows

    def sum_of(self, weights):
        """Return the ROW whose value is that of PAIRS times weights."""
        return weighted_row(self.count, [row for _, row in self.pairs], weights)


def check_word(family, formula, word):
    """Refuse a FORMULA that the FAMILY does not serve, then any value as word that tells no size."""
    need_served(family, formula)
    if word not in SIZE_WORDS:
        raise NotName(word)


def size_rows(family, formula, word):
    """Return the SIZE ROWS, for any value as word."""
    check_word(family, formula, word)
    return box_tops(family, formula)[SIZE_WORDS.index(word)]


def size_on(family, formula, word, side):
    """Return the Size, for any values as word and side."""
    check_word(family, formula, word)
    if side not in SIDES:
        raise NotName(side)
    return Size(family, size_rows(family, formula, word))


def greatest_size(family, formula, word):
    """Return how great the size can be, for any value as word."""
    return told_of(family, formula, word, "most")


def least_size(family, formula, word):
    """Return how small the size can be, for any value as word."""
    return told_of(family, formula, word, "least")


def least_room(family, formula):
    """Return the least FRACTION that is at least the FORMULA's WIDE in all fonts of a FAMILY."""
    found = greatest_size(family, formula, "wide")
    if found[0] == "endless":
        raise Endless()
    return found[1]


def told_of(family, formula, word, side):
    """Return what is told of the size on a side."""
    size = size_on(family, formula, word, side)
    return what_shows(size, side, paper_on(size, side))


def size_paper(family, formula, word, side):
    """Return a PAPER of the greatest or the least size, for any values as word and side."""
    return paper_on(size_on(family, formula, word, side), side)


def paper_on(size, side):
    """Return a PAPER of a side."""
    return greatest_paper_on(size) if side == "most" else least_paper_on(size)


def greatest_paper_on(size):
    """Return a PAPER of the greatest size: of the SIZE ROWS one after another."""
    table = Table(size.count, size.pairs)
    table.solve()
    papers = []
    for row in size.rows:
        paper = climbed(table.twin(), size.pairs, row)
        if paper[0] == "endless":
            return paper
        papers.append((paper, shown(paper, row)[1]))
    value = greatest_of([own for _, own in papers])
    best = [paper for paper, own in papers if own == value]
    met = [paper for paper in best if paper[0] == "met"]
    return (met + best)[0][:-1] + (tuple([paper[-1] for paper, _ in papers]),)


def least_paper_on(size):
    """Return a PAPER of the least size: that of a height above all SIZE ROWS."""
    system = lifted(size.pairs) + [over(row) for row in size.rows]
    table = Table(size.count + 1, system)
    table.solve()
    paper = climbed(table, system, less_height(constant_row(size.count, (0, 1))))
    many = len(size.pairs)
    points = tuple([without_height(point) for point in paper[1:-1]])
    return paper[:1] + points + (paper[-1][many:], paper[-1][:many])


def what_shows(size, side, paper):
    """Return what a PAPER of a side that holds shows."""
    if paper[0] == "endless":
        return ("endless",)
    return (side, value_of(size, paper), paper[0] == "met")


def value_of(size, paper):
    """Return VALUE of a PAPER: the size at SPOT, at FONT if there is none."""
    return top_value(size.rows, paper[2 if paper[0] == "near" else 1])


def check_size(family, formula, word, side, value):
    """Return what any value as PAPER shows of the greatest or the least size, for any values as word and side."""
    size = size_on(family, formula, word, side)
    kinds = PAPERS.get((side, word_of(value)), None)
    if kinds is None or len(value) != 1 + len(kinds) or not are_kinds(size, kinds, value[1:]):
        raise NotPaper(("form",))
    if not is_held(size, side, value):
        raise NotPaper((value[0],))
    return what_shows(size, side, value)


def are_kinds(size, kinds, things):
    """Return whether any values are things of these kinds."""
    return all([is_kind(size, kind, thing) for kind, thing in zip(kinds, things)])


def is_kind(size, kind, thing):
    """Return whether any value is a thing of this kind."""
    if kind == "shares":
        return is_weights(size.rows, thing)
    if kind != "lots":
        return is_of_kind(size.count, size.pairs, kind, thing)
    if not isinstance(thing, tuple) or len(thing) != len(size.rows):
        return False
    return all([is_weights(size.pairs, lot) for lot in thing])


def is_held(size, side, paper):
    """Return whether what has the form of a PAPER of a side holds."""
    word = paper[0]
    if first_false(size.pairs, paper[1]) is not None:
        return False
    if word == "endless":
        return any([is_endless_way(size.pairs, row, paper[2]) for row in size.rows])
    if word == "near" and first_false(loosened(size.pairs), paper[2]) is not None:
        return False
    if side == "least":
        return are_shares(size, word, paper[-2], paper[-1], value_of(size, paper))
    value = value_of(size, paper)
    return all([is_lot(size, word, row, lot, value) for row, lot in zip(size.rows, paper[-1])])


def is_lot(size, word, row, lot, value):
    """Return whether FRACTIONS show that a SIZE ROW is nowhere above VALUE, in "near" nowhere as great."""
    if not are_signed(size.pairs, lot):
        return False
    found = row_added(size.sum_of(lot), row)
    if any([weight != 0 for weight in found[:-2]]):
        return False
    sign = compared(found[-2:], value)
    return sign < 0 or (sign == 0 and (word == "met" or is_strict(size.pairs, lot)))


def are_shares(size, word, shares, weights, value):
    """Return whether FRACTIONS show that the size is nowhere below VALUE, in "near" nowhere as small."""
    if any([share[0] < 0 for share in shares]) or total(shares) != ONE or not are_signed(size.pairs, weights):
        return False
    if word == "near" and not is_strict(size.pairs, weights):
        return False
    left = row_minus(weighted_row(size.count, size.rows, shares), size.sum_of(weights))
    return left == constant_row(size.count, value)
