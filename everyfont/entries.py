"""The entries of a picture: any value judged as ITEMS, and what each of them is in the clear font."""

from everyfont.errors import NotPicture
from everyfont.fonts import is_level
from everyfont.formulas import is_sign, word_of
from everyfont.numbers import compared, is_fraction


def is_item(value):
    """Return whether any value is an item (X, Y, THING)."""
    if not isinstance(value, tuple) or len(value) != 3:
        return False
    return is_fraction(value[0]) and is_fraction(value[1]) and is_drawn(value[2])


def is_drawn(value):
    """Return whether any value is a THING, a rule or a sign."""
    word = word_of(value)
    if word not in ("rule", "sign") or len(value) != 3:
        return False
    if word == "rule":
        return is_fraction(value[1]) and is_fraction(value[2])
    return is_sign(value[1]) and is_level(value[2])


def order_of(item, other):
    """Return -1, 0 or 1: whether an item stands ahead of another one, is the same, or stands behind it."""
    for one, two in zip(item[:2], other[:2]):
        if one != two:
            return compared(one, two)
    one, two = item[2], other[2]
    if one == two:
        return 0
    # Rules stand ahead of signs, as "rule" does of "sign".
    if one[0] == "sign" or two[0] == "sign":
        return 1 if one > two else -1
    return compared(one[1], two[1]) if one[1] != two[1] else compared(one[2], two[2])


def check_items(value):
    """Return any value that is a tuple of sorted ITEMS."""
    if not isinstance(value, tuple):
        raise NotPicture(None)
    for number, item in enumerate(value):
        if not is_item(item) or (number > 0 and order_of(item, value[number - 1]) < 0):
            raise NotPicture(number)
    return value


def doubled(number):
    """Return a FRACTION of wholes or halves times 2, an integer: a picture in the clear font has no others."""
    if number[1] > 2:
        raise NotPicture(None)
    return number[0] * (2 // number[1])


class Entry:
    """An item: its kind, "sign", "across" or "upright", its level, and its doubled numbers.

    letters are the SIGN, None for rules; of a sign wide and high are 0.
    """

    def __init__(self, kind, level, left, base):
        self.kind = kind
        self.level = level
        self.left = left
        self.base = base
        self.letters = None
        self.wide = 0
        self.high = 0


def entry_of(item, levels):
    """Return the Entry of an item, with the levels of rules by their doubled numbers."""
    left, base, thing = doubled(item[0]), doubled(item[1]), item[2]
    if thing[0] == "sign":
        entry = Entry("sign", thing[2], left, base)
        entry.letters = thing[1]
        return entry
    wide, high = doubled(thing[1]), doubled(thing[2])
    # What a rule covers is nowhere as wide or as high as another rule is thick.
    if high in levels:
        entry = Entry("across", levels[high], left, base)
    elif wide in levels:
        entry = Entry("upright", levels[wide], left, base)
    else:
        raise NotPicture(None)
    entry.wide = wide
    entry.high = high
    return entry
