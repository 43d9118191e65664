"""FORMULAS, FONTS, SYSTEMS, FAMILIES, CLAIMS by chance, the same ones in each run; and FAMILIES that are told shortly."""

from fractions import Fraction
from math import gcd
from random import Random

from everyfont.families import check_family
from everyfont.fonts import needed
from everyfont.formulas import paths_of, words_of

LETTERS = ("a", "b", "cd", "sum")
WORDS = (
    "sign", "row", "over", "root", "high", "low", "both", "under", "upper", "limits", "fence", "bar", "table")
NO_BASES = ("row", "high", "low", "both")


def some_formula(chance, depth, words=WORDS):
    """Return a FORMULA at most so deep."""
    word = chance.choice(words) if depth > 1 else "sign"
    letters = chance.choice(LETTERS)
    part = lambda own=WORDS: some_formula(chance, depth - 1, own)
    base = lambda: part(tuple(own for own in WORDS if own not in NO_BASES))
    return {
        "sign": lambda: (word, letters),
        "row": lambda: (word, *(part() for _ in range(chance.randint(1, 3)))),
        "over": lambda: (word, part(), part()),
        "high": lambda: (word, base(), part()),
        "low": lambda: (word, base(), part()),
        "both": lambda: (word, base(), part(), part()),
        "under": lambda: (word, letters, part()),
        "upper": lambda: (word, letters, part()),
        "limits": lambda: (word, letters, part(), part()),
        "table": lambda: (word, some_rows(part, chance.randint(1, 2), chance.randint(1, 2))),
    }.get(word, lambda: (word, part()))()


def some_rows(part, rows, columns):
    """Return ROWS of a table."""
    return tuple(tuple(part() for _ in range(columns)) for _ in range(rows))


def some_formulas(many, seed):
    """Return up to so many pairs of a FORMULA and what made it by chance."""
    chance = Random(seed)
    for _ in range(many):
        formula = some_formula(chance, chance.randint(1, 6))
        if words_of(formula) <= 60:
            yield formula, chance


def as_fraction(number):
    """Return the FRACTION of a number of Python's."""
    number = Fraction(number)
    return (number.numerator, number.denominator)


def some_font(chance, names, lawful=True):
    """Return a FONT with these NAMES."""
    low = 1 if lawful else -9
    return tuple(
        (name, as_fraction(Fraction(
            chance.randint(0 if lawful and name[0] in ("deep", "space") else low, 9), chance.randint(1, 4))))
        for name in sorted(names))


def lowest_row(integers):
    """Return the ROW or POINT of integers, the last one from 1."""
    shared = gcd(*integers)
    return tuple(integer // shared for integer in integers)


def some_row(chance, count, most=3, constant=3):
    """Return a ROW of count numbers."""
    integers = [chance.randint(-most, most) for _ in range(count)]
    return lowest_row(integers + [chance.randint(-constant, constant), chance.randint(1, 3)])


def some_system(chance, count, pairs, words=("ge", "gt", "eq"), most=3, constant=3):
    """Return a SYSTEM."""
    return tuple((chance.choice(words), some_row(chance, count, most, constant)) for _ in range(pairs))


def values_times(rows, integers):
    """Return the ROW of rows times integers, as a list of integers without its bottom, and that bottom."""
    bottom = 1
    for row in rows:
        bottom *= row[-1]
    total = [0] * (len(rows[0]) - 1)
    for row, integer in zip(rows, integers):
        total = [own + integer * (bottom // row[-1]) * top for own, top in zip(total, row[:-1])]
    return total, bottom


def system_at(chance, count, pairs, point, words=("ge", "gt", "eq"), most=9):
    """Return a SYSTEM that holds at a POINT of integers, some of its "ge" pairs just so."""
    system = []
    for number in range(pairs):
        word = chance.choice(words)
        # More "eq" pairs than a third of the unknowns would leave little to find.
        if word == "eq" and sum(own == "eq" for own, _ in system) > count // 3:
            word = "ge"
        slopes = [chance.randint(-most, most) if chance.random() < 0.7 else 0 for _ in range(count)]
        spare = {"eq": 0, "ge": chance.randint(0, 2 * most), "gt": chance.randint(1, 2 * most)}[word]
        constant = spare - sum(slope * top for slope, top in zip(slopes, point))
        system.append((word, lowest_row(slopes + [constant, 1 + number % 3])))
    return tuple(system)


def system_nowhere(chance, count, pairs, used, most=9):
    """Return a SYSTEM that holds nowhere, by one more pair that so many others deny together."""
    point = [chance.randint(-3, 3) for _ in range(count)]
    system = system_at(chance, count, pairs - 1, point, ("ge", "gt"), most)
    total, bottom = values_times([row for _, row in system[:used]], [chance.randint(1, 3) for _ in range(used)])
    # The others add up to total; less than 0 it cannot be.
    denied = lowest_row([-top for top in total[:-1]] + [-total[-1] - 1, bottom])
    place = chance.randrange(pairs)
    return system[:place] + (("ge", denied),) + system[place:]


def some_family(chance, formula, pairs, most=12):
    """Return a FAMILY that serves a FORMULA, with up to most unknowns, so many pairs, and inner fonts."""
    names = list(needed(formula))
    unknowns = tuple(sorted(chance.sample(names, chance.randint(0, min(len(names), most)))))
    point = [chance.randint(1, 9) for _ in unknowns]
    system = []
    for _ in range(pairs):
        slopes = [chance.randint(-3, 3) for _ in unknowns]
        constant = chance.randint(1, 20) - sum(slope * top for slope, top in zip(slopes, point))
        system.append((chance.choice(("ge", "gt")), lowest_row(slopes + [constant, 1])))
    return (unknowns, some_font(chance, [name for name in names if name not in unknowns]), tuple(system))


def some_sum(chance, formula):
    """Return a SUM of a CLAIM on a FORMULA."""
    paths, names = paths_of(formula), needed(formula)
    places = ("left", "base", "right", "top", "bottom")
    pairs = []
    for _ in range(chance.randint(1, 3)):
        thing = chance.choice([(chance.choice(paths), chance.choice(places))] * 7 + [chance.choice(names)] * 2 + [None])
        pairs.append((thing, as_fraction(Fraction(chance.choice((-2, -1, -1, 0, 1, 1, 2)), chance.randint(1, 2)))))
    return tuple(pairs)


def some_claim(chance, formula, depth):
    """Return a CLAIM on a FORMULA at most so deep."""
    word = chance.choice(("is", "is", "not", "and", "or")) if depth > 1 else "is"
    if word == "is":
        return (word, chance.choice(("lt", "le", "eq", "ne", "ge", "gt")), some_sum(chance, formula))
    return (word, *(some_claim(chance, formula, depth - 1) for _ in range(1 if word == "not" else chance.randint(0, 3))))


def family_for(formula, *names, system=(), **numbers):
    """Return the FAMILY of a FORMULA with these unknowns; the other NAMES have 1, or what is told by their first words."""
    fixed = tuple((name, as_fraction(Fraction(numbers.get(name[0], 1)))) for name in needed(formula) if name not in names)
    return check_family((tuple(sorted(names)), fixed, system))


def some_grid(chance, most_cells=8, formula=None):
    """Return a GRID of cells that are put where there is room."""
    columns, rows = chance.randint(1, 5), chance.randint(1, 5)
    taken, cells = set(), []
    for _ in range(chance.randint(0, most_cells)):
        first, top = chance.randrange(columns), chance.randrange(rows)
        last, bottom = chance.randint(first + 1, min(columns, first + 3)), chance.randint(top + 1, min(rows, top + 3))
        fields = {(column, row) for column in range(first, last) for row in range(top, bottom)}
        if not fields & taken:
            taken |= fields
            cells.append((first, last, top, bottom, formula(chance) if formula else some_formula(chance, 2)))
    return (columns, rows, tuple(cells))
