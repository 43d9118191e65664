"""The search for TREES: which STEPS have to be split until nothing is left of the fonts that break a CLAIM.

The rows of a leaf hold somewhere exactly if pairs of fewer unknowns do: those of the NAMES and of the open STEPS, all
other STEPS being sums of these. So a Table is kept of these pairs alone; its weights are turned into a leaf's.
"""

from math import lcm

from everyfont.claims import unfolded
from everyfont.families import family_pairs, name_rows
from everyfont.leaves import Leaves, put_shares
from everyfont.numbers import ONE, ZERO, added, greatest_of
from everyfont.points import shared_divisor, without_divisor
from everyfont.rows import constant_row, row_minus, row_value, unit_row, weighted_row
from everyfont.simplex import Table
from everyfont.systems import pair_holds


class Node:
    """A place in a TREE: the Table of its pairs, their bottoms, the row that each stands for, and what is split."""

    def __init__(self, table):
        self.table = table
        self.bottoms = []
        self.tags = []
        self.splits = {}

    def twin(self):
        """Return a Node in the same state, independent of this one."""
        twin = Node(self.table.twin())
        twin.bottoms = list(self.bottoms)
        twin.tags = list(self.tags)
        twin.splits = dict(self.splits)
        return twin

    def take(self, word, row, tag):
        """Take a pair; its tag (WORD, NUMBER, MEMBER) tells what row of a leaf it stands for."""
        self.table.take_pair(word, row)
        self.bottoms.append(row[-1])
        self.tags.append(tag)

    def drop(self, tag):
        """Take the pair with a tag away if there is one."""
        if tag in self.tags:
            self.table.drop(self.tags.index(tag))


class Search:
    """A search for TREES of a FORMULA on a FAMILY; rows are those of the STEPS, over NAMES and open STEPS."""

    def __init__(self, spans):
        self.spans = spans
        self.leaves = Leaves(spans)
        self.opens = spans.unsettled()
        self.first = len(spans.family[0])
        self.count = self.first + len(self.opens)
        self.names = name_rows(spans.family, self.count)
        self.names[None] = constant_row(self.count, ONE)
        self.rows = []
        for step, (word, things) in enumerate(spans.steps):
            if word == "sum":
                self.rows.append(self.row_of_sum(things))
            elif step in self.opens:
                self.rows.append(unit_row(self.count, self.first + self.opens.index(step)))
            else:
                self.rows.append(self.rows[things[spans.settled[step]]])

    def row_of_sum(self, pairs):
        """Return the ROW of a SUM of NAMES, numbers of STEPS, PLACES and None."""
        rows = []
        shares = []
        for thing, share in unfolded(self.spans.written, pairs):
            rows.append(self.names[thing] if thing in self.names else self.rows[thing])
            shares.append(share)
        return weighted_row(self.count, rows, shares)

    def root(self):
        """Return the Node at which nothing is chosen, its Table not yet solved."""
        node = Node(Table(self.count, ()))
        for number, (word, row) in enumerate(family_pairs(self.spans.family)):
            node.take(word, row[:self.first] + (0,) * len(self.opens) + row[-2:], ("family", number, None))
        for step in self.opens:
            for member, number in enumerate(self.spans.steps[step][1]):
                node.take("ge", row_minus(self.rows[step], self.rows[number]), ("above", step, member))
            high = self.spans.ranges[step][1]
            if high is not None:
                node.take("ge", row_minus(constant_row(self.count, high), self.rows[step]), ("below", step, None))
        return node

    def judged(self, cases):
        """Return ("holds", TREE) if no one of some conjunctions is so in a font, or ("broken", POINT)."""
        root = self.root()
        shares = root.table.solve()
        if shares is not None:
            return ("holds", ("bar", self.weights(root, shares, None)))
        trees = []
        for case in cases:
            node = root.twin()
            asked = [(word, self.row_of_sum(pairs)) for word, pairs in case]
            for number, (word, row) in enumerate(asked):
                node.take(word, row, ("case", number, None))
            tree, point = self.tree_from(node, asked, self.leaves.rows_of_case(case))
            if point is not None:
                return ("broken", point)
            trees.append(tree)
        return ("holds", ("case", tuple(trees)))

    def tree_from(self, node, asked, case):
        """Return (TREE, None) from a Node with the pairs that are asked for, or (None, POINT) of a font with them."""
        shares = node.table.solve()
        if shares is not None:
            return ("bar", self.weights(node, shares, case)), None
        self.tighten(node)
        point = node.table.point()
        real = self.real_point(point)
        false = [row for word, row in asked if not pair_holds((word, row), real)]
        if not false:
            return None, without_divisor(real[:self.first] + real[-1:])
        step = self.loose_step(false[0], point, real)
        trees = []
        for member in range(len(self.spans.steps[step][1])):
            tree, found = self.tree_from(self.split_off(node, step, member), asked, case)
            if found is not None:
                return None, found
            trees.append(tree)
        return ("split", step, tuple(trees)), None

    def tighten(self, node):
        """Bring the open STEPS of a Node near to their members: so a font is found sooner if there is one."""
        rows = []
        shares = []
        for step in self.opens:
            if step not in node.splits:
                for number in self.spans.steps[step][1]:
                    rows.append(row_minus(self.rows[number], self.rows[step]))
                    shares.append(ONE)
        node.table.climb(weighted_row(self.count, rows, shares))

    def split_off(self, node, step, member):
        """Return the Node below in which an open STEP is at most its member."""
        node = node.twin()
        # No row of a leaf tells the greatest bound of a STEP that is split.
        node.drop(("below", step, None))
        number = self.spans.steps[step][1][member]
        node.take("ge", row_minus(self.rows[number], self.rows[step]), ("member", step, member))
        node.splits[step] = member
        return node

    def real_point(self, point):
        """Return the POINT with the same NAMES' numbers and what the open STEPS are with them."""
        tops = list(point[:self.first]) + [0] * len(self.opens) + [point[-1]]
        for place, step in enumerate(self.opens):
            value = greatest_of([row_value(self.rows[number], tops) for number in self.spans.steps[step][1]])
            bottom = lcm(tops[-1], value[1])
            tops = [top * (bottom // tops[-1]) for top in tops]
            tops[self.first + place] = value[0] * (bottom // value[1])
        return without_divisor(tops)

    def loose_step(self, row, point, real):
        """Return an open STEP that is greater at a POINT than all its members, and because of which a ROW is not real.

        From the STEP that the ROW changes most with, the way leads down to what makes that too great.
        """
        while True:
            _, place = max([
                (abs(row[own] * (point[own] * real[-1] - real[own] * point[-1])), own)
                for own in range(self.first, self.count)])
            step = self.opens[place - self.first]
            rows = [self.rows[number] for number in self.spans.steps[step][1]]
            values = [row_value(own, point) for own in rows]
            greatest = greatest_of(values)
            row = rows[values.index(greatest)]
            if greatest != row_value(self.rows[step], point):
                return step

    def weights(self, node, shares, case):
        """Return the weights of a leaf's rows by the shares of a Node's pairs that show that they hold nowhere."""
        rows = self.leaves.rows_of_leaf(node.splits, case)
        starts = self.leaves.starts(node.splits)
        heavy = [share * bottom for share, bottom in zip(shares, node.bottoms)]
        shared = shared_divisor(heavy)
        weights = [ZERO] * len(rows)
        left = {}
        for tag, weight in zip(node.tags, heavy):
            number = self.row_number(tag, starts, node.splits)
            if weight != 0 and number is not None:
                weights[number] = added(weights[number], (weight // shared, 1))
                put_shares(left, rows[number][1], (weight // shared, 1))
        # What is left of each STEP is taken away by the first one of its rows, from the last STEP to the first.
        for step in reversed(range(len(self.spans.steps))):
            share = left.get(self.first + step, ZERO)
            if share != ZERO:
                weights[starts[step]] = share
                put_shares(left, rows[starts[step]][1], share)
        return tuple(weights)

    def row_number(self, tag, starts, splits):
        """Return the number of the leaf's row for which a pair stands, None for what the "eq" row of its STEP tells."""
        word, number, member = tag
        if word == "family":
            return number
        if word == "case":
            return starts[-1] + number
        if word == "below":
            return starts[number] + len(self.spans.steps[number][1])
        if word == "member" or member == splits.get(number):
            return None
        if number not in splits:
            return starts[number] + member
        return starts[number] + (member + 1 if member < splits[number] else member)
