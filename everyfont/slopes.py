"""How fast a size can grow with each unknown of a FAMILY."""

from everyfont.errors import Unlike
from everyfont.numbers import greatest_of, opposite
from everyfont.rows import coefficients_of
from everyfont.sizes import size_rows


def slopes(family, formula, word):
    """Return for each unknown the least and the greatest coefficient of it in the SIZE ROWS."""
    rows = [coefficients_of(row) for row in size_rows(family, formula, word)]
    found = []
    for number in range(len(family[0])):
        own = [row[number] for row in rows]
        found.append((opposite(greatest_of([opposite(slope) for slope in own])), greatest_of(own)))
    return tuple(found)


def steepest(family, formula, word):
    """Return the number of the first unknown with the greatest coefficient of all."""
    most = [high for _, high in slopes(family, formula, word)]
    if not most:
        raise Unlike()
    return most.index(greatest_of(most))
