"""Plain forms: FORMULAS without rows in rows and without rows of one part."""

from everyfont.formulas import paths_of, put_thing, thing_at, ways_down


def plain(formula):
    """Return the plain form of a FORMULA."""
    if formula[0] != "row":
        for way in ways_down(formula):
            formula = put_thing(formula, way, plain(thing_at(formula, way)))
        return formula
    parts = []
    for part in [plain(own) for own in formula[1:]]:
        parts.extend(part[1:] if part[0] == "row" else [part])
    return ("row",) + tuple(parts) if len(parts) > 1 else parts[0]


def is_plain(formula):
    """Return whether a FORMULA is its own plain form."""
    return plain(formula) == formula


def table_path(formula):
    """Return the first PATH of a "table" in a FORMULA, None if there is none."""
    for path in paths_of(formula):
        if thing_at(formula, path)[0] == "table":
            return path
    return None
