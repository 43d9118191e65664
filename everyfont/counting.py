"""Which ROWS of a TOP count on a SYSTEM: those that are greater than all others somewhere within its set."""

from everyfont.above import climb_above, counting_in, inner_table, tops_of
from everyfont.errors import Empty, Unlike
from everyfont.rows import is_row


def counts_at(count, system, top, row):
    """Return a POINT within the set at which any value as ROW is greater than all others, None if there is none."""
    if not is_row(count, row) or row not in top:
        raise Unlike()
    table = inner_table(count, system)
    if table is None:
        return None
    tops = tops_of(top)[0]
    number = top.index(row)
    return climb_above(table, tops[number], tops[:number] + tops[number + 1:])[0]


def counting_rows(count, system, top):
    """Return the TOP of the ROWS that count."""
    table = inner_table(count, system)
    if table is None:
        raise Empty()
    return counting_in(table, top)
