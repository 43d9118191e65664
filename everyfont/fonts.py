"""FONTS: numbers with NAMES, and which of them a FORMULA needs."""

from everyfont.errors import NotFont, NotName
from everyfont.formulas import WITH_SIGN, is_sign, walk_from, word_of
from everyfont.numbers import is_fraction, is_int, times

MOST_LEVEL = 7

SIGN_WORDS = ("wide", "high", "deep")
LEVEL_WORDS = ("axis", "rule", "gap", "space", "rise", "fall")
ZERO_WORDS = ("deep", "space")

ASKED_WORDS = {
    "sign": (),
    "row": (),
    "over": ("axis", "rule", "gap", "rise", "fall"),
    "root": ("rule", "gap"),
    "high": ("rise",),
    "low": ("fall",),
    "both": ("rise", "fall"),
    "under": ("fall", "gap"),
    "upper": ("rise", "gap"),
    "limits": ("rise", "fall", "gap"),
    "fence": ("rule", "gap"),
    "bar": ("rule", "gap"),
    "table": ("axis", "rule", "gap"),
}


def is_name(value):
    """Return whether any value is a NAME."""
    word = word_of(value)
    if word in SIGN_WORDS:
        return len(value) == 3 and is_sign(value[1]) and is_level(value[2])
    return word in LEVEL_WORDS and len(value) == 2 and is_level(value[1])


def is_level(value):
    """Return whether any value is a level."""
    return is_int(value) and 0 <= value <= MOST_LEVEL


def check_name(value):
    """Return any value that is a NAME."""
    if not is_name(value):
        raise NotName(value)
    return value


def is_font_pair(value):
    """Return whether any value is a pair (NAME, FRACTION)."""
    return isinstance(value, tuple) and len(value) == 2 and is_name(value[0]) and is_fraction(value[1])


def check_font(value):
    """Return any value that is a FONT, lawful or not."""
    if not isinstance(value, tuple):
        raise NotFont(None)
    for number, pair in enumerate(value):
        if not is_font_pair(pair):
            raise NotFont(number)
        if number > 0 and pair[0] <= value[number - 1][0]:
            raise NotFont(number)
    return value


def is_lawful_number(name, number):
    """Return whether a FRACTION is one that a NAME may have in a lawful FONT."""
    return number[0] > 0 or (number[0] == 0 and name[0] in ZERO_WORDS)


def is_lawful(font):
    """Return whether a FONT is lawful."""
    return all([is_lawful_number(name, number) for name, number in font])


def number_of(font, name):
    """Return the FRACTION of a NAME."""
    for own, number in font:
        if own == name:
            return number
    raise NotFont(name)


def times_font(font, value):
    """Return the FONT with all its FRACTIONS times a FRACTION."""
    return tuple([(name, times(number, value)) for name, number in font])


def put_font(font, other):
    """Return the FONT with the pairs of both, of one NAME that of other."""
    numbers = {name: number for name, number in font + other}
    return tuple([(name, numbers[name]) for name in sorted(numbers)])


def cut_font(font, names):
    """Return the FONT with the NAMES in a tuple alone."""
    wanted = set(names)
    return tuple([(name, number) for name, number in font if name in wanted])


def has_space(formula):
    """Return whether some parts of a FORMULA stand with space between them."""
    if formula[0] == "row":
        return len(formula) > 2
    return formula[0] == "table" and len(formula[1][0]) > 1


def asked(formula, level):
    """Return the NAMES for which a FORMULA at a level asks, without those of its parts."""
    names = [(word, level) for word in ASKED_WORDS[formula[0]]]
    if has_space(formula):
        names.append(("space", level))
    if formula[0] in WITH_SIGN:
        names.extend([(word, formula[1], level) for word in SIGN_WORDS])
    return names


def needed(formula):
    """Return the ascending tuple of the NAMES for which it and all FORMULAS in it ask."""
    return needed_at(formula, 0)


def needed_at(formula, level):
    """Return the same for a FORMULA at a level."""
    names = []
    for _, part, own_level in walk_from((), formula, level):
        names.extend(asked(part, own_level))
    return tuple(sorted(set(names)))


def numbers_for(font, names):
    """Return the FRACTIONS of a FONT by their NAMES; it has to have all names."""
    numbers = {name: number for name, number in font}
    for name in names:
        if name not in numbers:
            raise NotFont(name)
    return numbers
