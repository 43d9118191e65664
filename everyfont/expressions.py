"""How great a FORMULA's box numbers are in all fonts of a FAMILY at once, told by TOPS."""

from everyfont.above import counting_in, inner_table
from everyfont.errors import Empty, NotFont
from everyfont.families import family_pairs, name_rows, need_served
from everyfont.rows import weighted_row
from everyfont.steps import Written
from everyfont.tops import check_few, top_added, top_of, top_times


def name_row(family, name):
    """Return the ROW of the unknowns that a NAME is in all fonts of a FAMILY."""
    rows = name_rows(family, len(family[0]))
    if name not in rows:
        raise NotFont(name)
    return rows[name]


def box_tops(family, formula):
    """Return the TOPS of WIDE, HIGH and DEEP of a FORMULA's box in all fonts of a FAMILY."""
    return tops_by_path(family, formula)[()]


def part_tops(family, formula):
    """Return the ascending pairs (PATH, TOPS) of a FORMULA and all FORMULAS in it."""
    tops = tops_by_path(family, formula)
    return tuple([(path, tops[path]) for path in sorted(tops)])


def tops_by_path(family, formula):
    """Return the triples of TOPS of a FORMULA and all FORMULAS in it, by their PATHS."""
    need_served(family, formula)
    table = inner_table(len(family[0]), family_pairs(family))
    if table is None:
        raise Empty()
    written = Written(formula)
    tops = []
    rows = name_rows(family, table.count)
    for word, things in written.steps[:written.sizes]:
        if word == "greatest":
            tops.append(top_of_greatest(table, [tops[number] for number in things]))
        else:
            tops.append(top_of_sum(table, rows, tops, things))
    return {path: (tops[part.wide], tops[part.high], tops[part.deep]) for path, part in written.parts.items()}


def top_of_greatest(table, members):
    """Return the TOP of the ROWS that count of those of several TOPS."""
    rows = []
    for top in members:
        rows.extend(top)
    found = top_of(rows)
    check_few(found)
    # Of the ROWS of one TOP all count already.
    return found if found in members else counting_in(table, found)


def top_of_sum(table, rows, tops, things):
    """Return the TOP of the ROWS that count of a SUM of NAMES, whose ROWS are told, and of STEPS, whose TOPS are."""
    single = []
    shares = []
    others = []
    for thing, share in things:
        top = (rows[thing],) if isinstance(thing, tuple) else tops[thing]
        if len(top) == 1:
            single.append(top[0])
            shares.append(share)
        else:
            others.append(top_times(top, share))
    found = (weighted_row(table.count, single, shares),)
    for top in others:
        found = top_added(found, top)
    # What is added to all ROWS of a TOP alike does not change which of them count.
    return counting_in(table, found) if len(others) > 1 else found
