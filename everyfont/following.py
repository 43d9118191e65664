"""Where PATHS and CLAIMS lead in the plain form of a FORMULA, and whether one FAMILY is within another one."""

from everyfont.covers import denials_of, with_pair
from everyfont.families import family_pairs, name_rows
from everyfont.formulas import found_at, thing_at, ways_down
from everyfont.numbers import ONE
from everyfont.plains import plain
from everyfont.rows import coefficients_of, constant_row, row_minus, weighted_row
from everyfont.simplex import Table


def led_path(formula, path):
    """Return where any value as PATH leads in the plain form, None if it has no place there."""
    found_at(formula, path)
    return led_paths(formula)[path]


def led_paths(formula):
    """Return where all PATHS of a FORMULA lead, by them; None for those that have no place."""
    found = {}
    lead(formula, (), (), found)
    return found


def lead(formula, path, place, found):
    """Put into found where a PATH, of this FORMULA, and those in it lead: to a place."""
    found[path] = place
    if formula[0] == "row" and len(formula) > 2:
        lead_parts(formula, path, place, 1, found)
        return
    for way in ways_down(formula):
        # A row of one part and its part are at one place.
        lead(thing_at(formula, way), path + way, place if formula[0] == "row" else place + way, found)


def lead_parts(formula, path, place, number, found):
    """Put into found where the parts of a "row" lead: to places in a row, from this number on; return the next one."""
    for way in ways_down(formula):
        part = formula[way[0]]
        if plain(part)[0] == "row":
            found[path + way] = None
            number = lead_parts(part, path + way, place, number, found)
        else:
            lead(part, path + way, place + (number,), found)
            number += 1
    return number


def led_claim(formula, claim):
    """Return a CLAIM on a FORMULA with all its PATHS led, None if one has no place."""
    return claim_by(led_paths(formula), claim)


def claim_by(places, claim):
    """Return the same, with where all PATHS lead."""
    if claim[0] == "is":
        pairs = [(thing_by(places, thing), share) for thing, share in claim[2]]
        if any([is_place(thing) and thing[0] is None for thing, _ in pairs]):
            return None
        return (claim[0], claim[1], tuple(pairs))
    parts = [claim_by(places, part) for part in claim[1:]]
    return None if None in parts else (claim[0],) + tuple(parts)


def is_place(thing):
    """Return whether a THING of a CLAIM is a PLACE, its PATH led or not."""
    return isinstance(thing, tuple) and not isinstance(thing[0], str)


def thing_by(places, thing):
    """Return a THING with its PATH, if it is a PLACE, led."""
    return (places[thing[0]], thing[1]) if is_place(thing) else thing


def key_of(formula, family, claim):
    """Return the KEY of a FORMULA, a FAMILY and a CLAIM."""
    led = led_claim(formula, claim)
    return (formula, family, claim) if led is None else (plain(formula), family, led)


def is_within(family, other):
    """Return whether each font of the first FAMILY is a font of the other one."""
    if family == other:
        return True
    names = family[0]
    table = Table(len(names), family_pairs(family))
    if table.solve() is not None:
        return True
    rows = name_rows(family, len(names))
    if sorted(rows) != sorted(other[0] + tuple([name for name, _ in other[1]])):
        return False
    wanted = []
    for name, number in other[1]:
        wanted.append(("eq", row_minus(rows[name], constant_row(len(names), number))))
    for word, row in family_pairs(other):
        wanted.append((word, row_in(len(names), row, [rows[name] for name in other[0]])))
    return all([is_everywhere(table, pair) for pair in wanted])


def row_in(size, row, rows):
    """Return the ROW of size numbers whose value is that of a ROW at the values of rows."""
    return weighted_row(size, rows + [constant_row(size, ONE)], coefficients_of(row))


def is_everywhere(table, pair):
    """Return whether a pair holds wherever those of a solved Table do."""
    return all([with_pair(table, denial)[1] is not None for denial in denials_of(pair)])
