"""FORMULAS: their form, and the paths and levels of their parts."""

from everyfont.errors import NotFormula
from everyfont.numbers import is_int

MOST_WORDS = 60
MOST_DEPTH = 8
MOST_LETTERS = 8

# A "base" is a FORMULA that may carry raised or lowered parts. "row" is missing: it has any number of parts.
WANTED = {
    "sign": ("sign",),
    "over": ("part", "part"),
    "root": ("part",),
    "high": ("base", "part"),
    "low": ("base", "part"),
    "both": ("base", "part", "part"),
    "under": ("sign", "part"),
    "upper": ("sign", "part"),
    "limits": ("sign", "part", "part"),
    "fence": ("part",),
    "bar": ("part",),
    "table": ("rows",),
}
NO_BASES = ("row", "high", "low", "both")
WITH_SIGN = ("sign", "under", "upper", "limits")
WITH_SCRIPTS = ("high", "low", "both", "under", "upper", "limits")


def is_sign(value):
    """Return whether any value is a SIGN."""
    if not isinstance(value, str) or not 1 <= len(value) <= MOST_LETTERS:
        return False
    return all(["a" <= letter <= "z" for letter in value])


def word_of(value):
    """Return the string that any value has first, None if it is no tuple with one."""
    if isinstance(value, tuple) and len(value) > 0 and isinstance(value[0], str):
        return value[0]
    return None


def has_form(value):
    """Return whether any value has a word and as many things as it wants, whatever they are."""
    word = word_of(value)
    if word == "row":
        return len(value) > 1
    return word in WANTED and len(value) == 1 + len(WANTED[word])


def formula_fault(value, path):
    """Return the PATH of the first thing in any value that is not as told, None if there is none."""
    if not has_form(value):
        return path
    kinds = ("part",) * (len(value) - 1) if value[0] == "row" else WANTED[value[0]]
    for number, kind in enumerate(kinds):
        fault = thing_fault(kind, value[number + 1], path + (number + 1,))
        if fault is not None:
            return fault
    return None


def thing_fault(kind, thing, path):
    """Return likewise the first PATH in what stands behind a word, by its kind."""
    if kind == "sign":
        return None if is_sign(thing) else path
    if kind == "rows":
        return rows_fault(thing, path)
    if kind == "base" and word_of(thing) in NO_BASES:
        return path
    return formula_fault(thing, path)


def rows_fault(rows, path):
    """Return likewise the first PATH in the ROWS of a table."""
    if not isinstance(rows, tuple) or len(rows) == 0:
        return path
    for number, row in enumerate(rows):
        if not isinstance(row, tuple) or len(row) == 0 or len(row) != len(rows[0]):
            return path + (number,)
        for column, cell in enumerate(row):
            fault = formula_fault(cell, path + (number, column))
            if fault is not None:
                return fault
    return None


def check_formula(value):
    """Return any value that is a FORMULA."""
    fault = formula_fault(value, ())
    if fault is not None:
        raise NotFormula(fault)
    if words_of(value) > MOST_WORDS or depth_of(value) > MOST_DEPTH:
        raise NotFormula(())
    return value


def ways_down(formula):
    """Return the PATHS of its parts, from the left."""
    if formula[0] == "table":
        rows = formula[1]
        return [(1, row, column) for row in range(len(rows)) for column in range(len(rows[0]))]
    first = 2 if formula[0] in WITH_SIGN else 1
    return [(place,) for place in range(first, len(formula))]


def thing_at(value, path):
    """Return what a PATH leads to."""
    for place in path:
        value = value[place]
    return value


def level_below(formula, level, way):
    """Return the level of the part at a way down from a FORMULA of a level."""
    if formula[0] == "over" or (formula[0] in WITH_SCRIPTS and way[0] > 1):
        return level + 1
    return level


def walk_from(path, formula, level):
    """Return what walk does, the FORMULA itself having a PATH and a level."""
    found = [(path, formula, level)]
    for way in ways_down(formula):
        part = thing_at(formula, way)
        found.extend(walk_from(path + way, part, level_below(formula, level, way)))
    return found


def walk(formula):
    """Return the triples (PATH, FORMULA, level) of all FORMULAS in it, the whole ahead of its parts."""
    return walk_from((), formula, 0)


def found_at(formula, path):
    """Return the triple of walk with any value as PATH."""
    # The kinds come first because Python takes True for 1.
    if isinstance(path, tuple) and all([is_int(place) for place in path]):
        for triple in walk(formula):
            if triple[0] == path:
                return triple
    raise NotFormula(path)


def words_of(formula):
    """Return how many words it has."""
    return len(walk(formula))


def depth_of(formula):
    """Return how deep it is."""
    return 1 + max([depth_of(thing_at(formula, way)) for way in ways_down(formula)], default=0)


def paths_of(formula):
    """Return the PATHS of all FORMULAS in it, the whole ahead of its parts."""
    return tuple([triple[0] for triple in walk(formula)])


def part_at(formula, path):
    """Return the FORMULA at any value as PATH."""
    return found_at(formula, path)[1]


def level_at(formula, path):
    """Return the level of the FORMULA at any value as PATH."""
    return found_at(formula, path)[2]


def put_thing(value, path, thing):
    """Return a tuple with a thing at a PATH instead of what was there."""
    if path == ():
        return thing
    place = path[0]
    return value[:place] + (put_thing(value[place], path[1:], thing),) + value[place + 1:]


def put_at(formula, path, part):
    """Return the FORMULA with any value as part, at any value as PATH."""
    found_at(formula, path)
    return check_formula(put_thing(formula, path, part))


def parts_of(formula):
    """Return the pairs (PATH, FORMULA) of all FORMULAS in it, in the order of paths_of."""
    return tuple([(path, part) for path, part, _ in walk(formula)])


def signs_of(formula):
    """Return the ascending tuple of the unlike pairs (SIGN, level) in it."""
    pairs = [(part[1], level) for _, part, level in walk(formula) if part[0] in WITH_SIGN]
    return tuple(sorted(set(pairs)))
