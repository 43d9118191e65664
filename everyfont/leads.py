"""How much greater one FORMULA's size can be than another one's, over a FAMILY."""

from everyfont.errors import Empty
from everyfont.families import family_pairs
from everyfont.heights import Heights, less_height
from everyfont.never import never_paper
from everyfont.numbers import compared, lowest
from everyfont.simplex import GOAL
from everyfont.sizes import size_rows


def greatest_lead(family, formula, other, word):
    """Return how great the first one's size less that of the other one can be, for any value as word."""
    rows = size_rows(family, formula, word)
    heights = Heights(len(family[0]), family_pairs(family), size_rows(family, other, word))
    best = None
    for row in rows:
        found = lead_of(heights, less_height(row))
        if found is None:
            return ("endless",)
        if best is None or is_more(found, best):
            best = found
    return ("most",) + best


def lead_of(heights, row):
    """Return (VALUE, IS_MET) of how great a ROW less the height can be, None if there is no bound."""
    if heights.climb(row) is not None:
        return None
    goal = heights.table.rows[GOAL]
    # Where SMALL is in what was climbed to, the value itself is only come near to.
    return (lowest(goal[-2], heights.table.bottom * row[-1]), goal[-1] == 0)


def is_more(found, best):
    """Return whether (VALUE, IS_MET) has the greater VALUE, or the same one, met."""
    sign = compared(found[0], best[0])
    return sign > 0 or (sign == 0 and found[1])


def leading_font(family, formula, other, word):
    """Return the POINT of a font at which the first one's size is greater, for any value as word."""
    one = size_rows(family, formula, word)
    two = size_rows(family, other, word)
    found, thing = never_paper(len(family[0]), family_pairs(family), one, two)
    if found == "means":
        raise Empty()
    return thing
