"""Whether CLAIMS hold on FAMILIES, with papers of both words."""

from everyfont.claims import broken, is_so
from everyfont.errors import NotPaper, TooGreat
from everyfont.families import family_font, family_pairs, need_served
from everyfont.formulas import word_of
from everyfont.points import is_point
from everyfont.search import Search
from everyfont.spans import Spans
from everyfont.systems import first_false
from everyfont.trees import check_tree

MOST_OPEN = 14


def judge(formula, family, claim):
    """Return ("holds", TREE) if a CLAIM holds on a FAMILY, or ("broken", POINT) of a font in which it is not so."""
    spans = Spans(formula, family)
    if len(spans.unsettled()) > MOST_OPEN:
        raise TooGreat(MOST_OPEN)
    return Search(spans).judged(broken(claim))


def check_judged(formula, family, claim, value):
    """Return the first word of any value that judge could return."""
    need_served(family, formula)
    broken(claim)
    word = word_of(value)
    if word not in ("holds", "broken") or len(value) != 2:
        raise NotPaper(())
    if word == "broken":
        if not is_breaking(formula, family, claim, value[1]):
            raise NotPaper((1,))
        return word
    try:
        check_tree(formula, family, claim, value[1])
    except NotPaper as wrong:
        raise NotPaper((1,) + wrong.path)
    return word


def is_breaking(formula, family, claim, value):
    """Return whether any value is the POINT of a font of a FAMILY in which a CLAIM is not so."""
    if not is_point(len(family[0]), value) or first_false(family_pairs(family), value) is not None:
        return False
    return not is_so(formula, family_font(family, value), claim)
