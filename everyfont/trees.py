"""TREES: papers that a CLAIM holds on a FAMILY."""

from everyfont.claims import broken
from everyfont.errors import NotPaper
from everyfont.formulas import word_of
from everyfont.leaves import Leaves, is_bar_with
from everyfont.numbers import is_int
from everyfont.spans import Spans


def leaf_rows(formula, family, splits, case):
    """Return the ROWS OF A LEAF, with the pairs (STEP, number of the member in it) and its case."""
    leaves = Leaves(Spans(formula, family))
    members = {step: member for step, member in splits}
    rows = leaves.rows_of_leaf(members, None if case is None else leaves.rows_of_case(case))
    return tuple([(word, leaves.row_of_shares(shares)) for word, shares in rows])


def check_tree(formula, family, claim, tree):
    """Return True if any value is a TREE that shows that a CLAIM holds on a FAMILY."""
    leaves = Leaves(Spans(formula, family))
    path = tree_fault(leaves, broken(claim), tree, Way({}, None, ()))
    if path is not None:
        raise NotPaper(path)
    return True


class Way:
    """The way to a TREE: the members of the STEPS that are split on it, the rows of the case or None, and its PATH."""

    def __init__(self, splits, case, path):
        self.splits = splits
        self.case = case
        self.path = path


def tree_fault(leaves, cases, tree, way):
    """Return the PATH of the first TREE in any value that is not as told, None if there is none."""
    word = word_of(tree)
    if word == "bar" and len(tree) == 2:
        return None if is_bar_with(leaves.rows_of_leaf(way.splits, way.case), tree[1]) else way.path
    if word == "split" and len(tree) == 3 and may_split(leaves, tree[1], way):
        return trees_fault(leaves, cases, tree, ways_of_split(leaves, tree[1], way), way.path)
    if word == "case" and len(tree) == 2 and way.case is None:
        ways = []
        for number, case in enumerate(cases):
            ways.append(Way(way.splits, leaves.rows_of_case(case), way.path + (1, number)))
        return trees_fault(leaves, cases, tree, ways, way.path)
    return way.path


def may_split(leaves, step, way):
    """Return whether any value is the number of a "greatest" that is not split on the way."""
    steps = leaves.spans.steps
    return is_int(step) and 0 <= step < len(steps) and steps[step][0] == "greatest" and step not in way.splits


def ways_of_split(leaves, step, way):
    """Return the Ways to the TREES of a split."""
    ways = []
    for member in range(len(leaves.spans.steps[step][1])):
        splits = dict(way.splits)
        splits[step] = member
        ways.append(Way(splits, way.case, way.path + (2, member)))
    return ways


def trees_fault(leaves, cases, tree, ways, path):
    """Return likewise the first PATH in a TREE that has TREES, one for each of several Ways."""
    if not isinstance(tree[-1], tuple) or len(tree[-1]) != len(ways):
        return path
    for inner, way in zip(tree[-1], ways):
        fault = tree_fault(leaves, cases, inner, way)
        if fault is not None:
            return fault
    return None


def tree_leaves(tree):
    """Return how many "bar"s a TREE has."""
    return words_in(tree, "bar")


def tree_splits(tree):
    """Return how many "split"s a TREE has."""
    return words_in(tree, "split")


def words_in(tree, word):
    """Return how often a TREE and all TREES in it have this word."""
    inner = () if tree[0] == "bar" else tree[-1]
    return (1 if tree[0] == word else 0) + sum([words_in(own, word) for own in inner])
