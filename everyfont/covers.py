"""COVERS: whether the sets of some SYSTEMS together contain that of another one."""

from everyfont.bars import is_bar_of
from everyfont.errors import Empty, NotPaper, TooGreat
from everyfont.formulas import word_of
from everyfont.numbers import MINUS_ONE, ZERO, added
from everyfont.rows import row_times
from everyfont.simplex import Table, bar_of
from everyfont.systems import check_system, first_false

MOST_OTHER_PAIRS = 16


def check_systems(count, system, systems):
    """Judge a SYSTEM and then others, any values."""
    check_system(count, system)
    for other in systems:
        check_system(count, other)
    for other in systems:
        if len(other) > MOST_OTHER_PAIRS:
            raise TooGreat(MOST_OTHER_PAIRS)


def denials_of(pair):
    """Return the list of the denials of a pair."""
    word, row = pair
    below = row_times(row, MINUS_ONE)
    if word == "eq":
        return [("gt", row), ("gt", below)]
    return [("gt" if word == "ge" else "ge", below)]


def denials(system):
    """Return the list of the denials of a SYSTEM."""
    found = []
    for pair in system:
        found.extend(denials_of(pair))
    return found


def with_pair(table, pair):
    """Return (Table, shares): a twin of a solved Table with one more pair, and what solve tells of it."""
    twin = table.twin()
    twin.take_pair(pair[0], pair[1])
    return twin, twin.solve()


def uncovered(count, system, systems):
    """Return a POINT at which a SYSTEM holds and no one of systems does, None if there is none."""
    check_systems(count, system, systems)
    table = Table(count, system)
    if table.solve() is not None:
        return None
    return point_outside(table, systems)


def point_outside(table, systems):
    """Return a POINT at which the pairs of a solved Table hold and no one of systems does, None if there is none."""
    point = table.point()
    for number, system in enumerate(systems):
        if first_false(system, point) is None:
            return point_beside(table, system, systems[:number] + systems[number + 1:])
    return point


def point_beside(table, system, others):
    """Return the same of a SYSTEM and others: somewhere a pair of it is denied, those ahead of that hold."""
    for pair in system:
        for denial in denials_of(pair):
            denied, shares = with_pair(table, denial)
            point = point_outside(denied, others) if shares is None else None
            if point is not None:
                return point
        table, shares = with_pair(table, pair)
        if shares is not None:
            return None
    return None


class Bars:
    """The BARS that are found so far of a SYSTEM's pairs and of denials behind them."""

    def __init__(self, system):
        self.size = len(system)
        self.found = {}

    def put(self, pairs, bar):
        """Keep a BAR of pairs, the last of which has a weight in it."""
        heavy = {}
        for pair, weight in zip(pairs[self.size:], bar[self.size:]):
            heavy[pair] = added(heavy.get(pair, ZERO), weight)
        used = [(pair, heavy[pair]) for pair in heavy if heavy[pair] != ZERO]
        self.found.setdefault(pairs[-1], []).append((bar[:self.size], used))

    def bar(self, pairs):
        """Return a BAR of pairs that is known by one that is kept, None if there is none."""
        chosen = pairs[self.size:]
        for first, used in self.found.get(pairs[-1], []):
            if all([pair in chosen for pair, _ in used]):
                weights = [ZERO] * len(chosen)
                for pair, weight in used:
                    weights[chosen.index(pair)] = weight
                return first + tuple(weights)
        return None


def cover_paper(count, system, systems):
    """Return a COVER."""
    check_systems(count, system, systems)
    table = Table(count, system)
    shares = table.solve()
    if shares is not None:
        return ("bar", bar_of(system, shares))
    if point_outside(table, systems) is not None:
        raise Empty()
    return opened(table, system, systems, Bars(system))


def opened(table, pairs, systems, bars):
    """Return the COVER of the set of pairs, which a solved Table has, by systems, one at least."""
    chosen = denials(systems[0])
    # Like denials have like trees: each is looked for once.
    trees = {}
    for denial in chosen:
        if denial not in trees:
            trees[denial] = denied_tree(table, pairs + (denial,), systems[1:], bars)
    return ("open", tuple([trees[denial] for denial in chosen]))


def denied_tree(table, pairs, systems, bars):
    """Return the COVER of the set of pairs, of which a solved Table has all but the last one."""
    bar = bars.bar(pairs)
    if bar is None:
        denied, shares = with_pair(table, pairs[-1])
        if shares is None:
            return opened(denied, pairs, systems, bars)
        bar = bar_of(pairs, shares)
        bars.put(pairs, bar)
    return ("bar", bar)


def check_cover(count, system, systems, paper):
    """Return True if any value as paper is a COVER."""
    check_systems(count, system, systems)
    path = cover_fault(count, system, systems, paper, ())
    if path is not None:
        raise NotPaper(path)
    return True


def cover_fault(count, pairs, systems, tree, path):
    """Return the path of the first tree in any value that is none of the set of pairs, None if all are right."""
    word = word_of(tree)
    if word not in ("bar", "open") or len(tree) != 2:
        return path
    if word == "bar":
        return None if is_bar_of(count, pairs, tree[1]) else path
    chosen = denials(systems[0]) if systems else None
    if chosen is None or not isinstance(tree[1], tuple) or len(tree[1]) != len(chosen):
        return path
    for number, denial in enumerate(chosen):
        fault = cover_fault(count, pairs + (denial,), systems[1:], tree[1][number], path + (number,))
        if fault is not None:
            return fault
    return None
