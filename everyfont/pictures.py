"""Whether two FORMULAS without tables look the same in all lawful fonts, and a font in which they do not."""

from everyfont.boxes import box_of
from everyfont.clear import clear_font
from everyfont.errors import NotFont, NotFormula, Unlike
from everyfont.fonts import check_font, is_lawful, needed
from everyfont.plains import plain, table_path


def refuse_tables(formula, other):
    """Refuse FORMULAS with a "table"."""
    for own in (formula, other):
        path = table_path(own)
        if path is not None:
            raise NotFormula(path)


def is_one_picture(formula, other):
    """Return whether two FORMULAS have the same ITEMS in all lawful fonts that serve both."""
    refuse_tables(formula, other)
    return plain(formula) == plain(other)


def picture_font(formula, other):
    """Return a lawful FONT in which the ITEMS of two FORMULAS differ, None if there is none."""
    if is_one_picture(formula, other):
        return None
    return clear_font(tuple(sorted(set(needed(formula) + needed(other)))))


def check_picture_font(formula, other, font):
    """Return True if any value is a lawful FONT that serves two FORMULAS and in which their ITEMS differ."""
    refuse_tables(formula, other)
    check_font(font)
    if not is_lawful(font):
        raise NotFont(None)
    if box_of(formula, font)[3] == box_of(other, font)[3]:
        raise Unlike()
    return True
