"""The clear font: one from whose ITEMS a FORMULA can be read back."""

from everyfont.fonts import MOST_LEVEL

GROWTH = 1000000000


def clear_font(names):
    """Return the clear font of an ascending tuple of NAMES."""
    numbers = {}
    number = 1
    for name in clear_order(names):
        number *= GROWTH
        numbers[name] = (number, 1)
    return tuple([(name, numbers[name]) for name in names])


def clear_order(names):
    """Return NAMES in the order in which their numbers grow in the clear font."""
    order = [name for name in names if name[0] not in ("rise", "fall")]
    for depth in range(MOST_LEVEL + 1):
        for word in ("rise", "fall"):
            name = (word, MOST_LEVEL - depth)
            if name in names:
                order.append(name)
    return order
