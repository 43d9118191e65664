"""FAMILIES: all FONTS of some unknown NAMES, some fixed ones and a SYSTEM."""

from everyfont.errors import NotFamily, NotFont
from everyfont.fonts import ZERO_WORDS, check_font, is_lawful, is_name, needed, put_font
from everyfont.points import check_point, numbers_of, point_of
from everyfont.rows import constant_row, unit_row
from everyfont.systems import check_pairs, first_false

MOST_UNKNOWNS = 12
MOST_FAMILY_PAIRS = 40


def are_unknowns(value):
    """Return whether any value is an ascending tuple of at most 12 NAMES."""
    if not isinstance(value, tuple) or len(value) > MOST_UNKNOWNS or not all([is_name(name) for name in value]):
        return False
    return all([one < other for one, other in zip(value, value[1:])])


def is_fixed(names, value):
    """Return whether any value is a lawful FONT of other NAMES than these."""
    try:
        check_font(value)
    except NotFont:
        return False
    return is_lawful(value) and all([name not in names for name, _ in value])


def check_family(value):
    """Return any value that is a FAMILY."""
    if not isinstance(value, tuple) or len(value) != 3:
        raise NotFamily(-1)
    names, fixed, system = value
    if not are_unknowns(names):
        raise NotFamily(0)
    if not is_fixed(names, fixed):
        raise NotFamily(1)
    check_pairs(len(names), MOST_FAMILY_PAIRS, system)
    return value


def lawful_pair(names, number):
    """Return the pair that tells that an unknown is as in a lawful FONT."""
    word = "ge" if names[number][0] in ZERO_WORDS else "gt"
    return (word, unit_row(len(names), number))


def family_pairs(family):
    """Return the pairs of its SYSTEM and the lawful pair of each unknown."""
    names, _, system = family
    return system + tuple([lawful_pair(names, number) for number in range(len(names))])


def name_rows(family, size):
    """Return by the NAMES of a FAMILY their ROWS of size numbers, the first of which are the unknowns."""
    names, fixed, _ = family
    rows = {name: unit_row(size, number) for number, name in enumerate(names)}
    for name, number in fixed:
        rows[name] = constant_row(size, number)
    return rows


def family_font(family, point):
    """Return the FONT with the unknowns' FRACTIONS at any value as POINT."""
    names, fixed, _ = family
    check_point(len(names), point)
    return put_font(fixed, tuple(zip(names, numbers_of(point))))


def is_font_of(family, font):
    """Return whether a FONT is one of the FAMILY."""
    names = family[0]
    numbers = {name: number for name, number in font}
    if not all([name in numbers for name in names]):
        return False
    point = point_of([numbers[name] for name in names])
    return family_font(family, point) == font and first_false(family_pairs(family), point) is None


def need_served(family, formula):
    """Return the NAMES that a FORMULA needs, all of them unknowns or fixed."""
    names, fixed, _ = family
    served = set(list(names) + [name for name, _ in fixed])
    wanted = needed(formula)
    for name in wanted:
        if name not in served:
            raise NotFont(name)
    return wanted
