"""Whether the boxes of two FORMULAS are alike in all inner fonts of a FAMILY, and a font that parts them."""

from everyfont.above import climb_above, inner_table, tops_of
from everyfont.boxes import box_of
from everyfont.errors import NotFamily, NotPaper
from everyfont.expressions import box_tops
from everyfont.families import family_font, family_pairs, need_served
from everyfont.points import check_point
from everyfont.systems import first_false
from everyfont.tops import top_of


def are_alike(family, formula, other):
    """Return whether the boxes of two FORMULAS have the same numbers in all inner fonts of a FAMILY."""
    return box_tops(family, formula) == box_tops(family, other)


def parting_font(family, formula, other):
    """Return the POINT of an inner font in which one of the boxes' numbers differs, None if there is none."""
    for one, two in zip(box_tops(family, formula), box_tops(family, other)):
        if one != two:
            return parting_point(family, one, two)
    return None


def parting_point(family, one, two):
    """Return the POINT of an inner font at which two TOPS differ, all of whose ROWS count, None if there is none."""
    table = inner_table(len(family[0]), family_pairs(family))
    rows = top_of(one + two)
    tops = tops_of(rows)[0]
    for number, row in enumerate(rows):
        if row not in one or row not in two:
            point = climb_above(table.twin(), tops[number], tops[:number] + tops[number + 1:])[0]
            # Where a ROW of only one of them is greater than all others, the other TOP is less.
            if point is not None:
                return point
    return None


def check_parting(family, formula, other, value):
    """Return True if any value is the POINT of a font of a FAMILY in which one of the boxes' numbers differs."""
    need_served(family, formula)
    need_served(family, other)
    check_point(len(family[0]), value)
    if first_false(family_pairs(family), value) is not None:
        raise NotFamily(None)
    font = family_font(family, value)
    if box_of(formula, font)[:3] == box_of(other, font)[:3]:
        raise NotPaper(())
    return True
