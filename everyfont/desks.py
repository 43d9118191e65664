"""DESKS: LABELS that stand for FORMULAS, FAMILIES and CLAIMS, and a book of what is proved and broken."""

from everyfont.claims import check_claim, check_claim_with
from everyfont.conclusions import OnFamily, OnFormula, Proved, word_that_follows
from everyfont.errors import Empty, NotClaim, NotFont, NotName, TooGreat
from everyfont.families import check_family, need_served
from everyfont.following import key_of
from everyfont.formulas import check_formula, is_sign, word_of
from everyfont.prover import check_judged, judge

MOST_LABELS = 40
KINDS = ("formula", "family", "claim")


def check_thing(value):
    """Return any value that is a thing."""
    word = word_of(value)
    if word not in KINDS or len(value) != 2:
        raise NotName(value)
    if word == "formula":
        check_formula(value[1])
    elif word == "family":
        check_family(value[1])
    else:
        check_claim_with(None, value[1])
    return value


class Desk:
    """LABELS that stand for things, what they stood for ahead of and behind each edit, and the entries of a book."""

    def __init__(self):
        # No dict is changed once it stands here, so that edits and copies may keep it.
        self.shelf = {}
        self.done = []
        self.undone = []
        self.book = []

    def __eq__(self, other):
        """Return whether any value is a Desk whose LABELS stand for the same, with as many acts and the same book."""
        if not isinstance(other, Desk):
            return False
        return self.shelf == other.shelf and len(self.done) == len(other.done) and self.book == other.book

    def __len__(self):
        """Return how many LABELS stand for something."""
        return len(self.shelf)

    @property
    def acts(self):
        """Return how many edits can be undone."""
        return len(self.done)

    def check_known(self, label):
        """Refuse any value that stands for nothing."""
        if not isinstance(label, str) or label not in self.shelf:
            raise NotName(label)

    def edit(self, shelf):
        """Let the LABELS stand for what they do in a dict from now on."""
        self.done.append(self.shelf)
        self.undone = []
        self.shelf = shelf

    def put(self, label, thing):
        """Let any value that is a LABEL stand for any value that is a thing."""
        if not is_sign(label):
            raise NotName(label)
        check_thing(thing)
        if label not in self.shelf and len(self.shelf) == MOST_LABELS:
            raise TooGreat(MOST_LABELS)
        shelf = dict(self.shelf)
        shelf[label] = thing
        self.edit(shelf)

    def drop(self, label):
        """Let a LABEL, any value, stand for nothing more."""
        self.check_known(label)
        self.edit({own: thing for own, thing in self.shelf.items() if own != label})

    def rename(self, label, fresh):
        """Let a fresh LABEL stand for the thing of another one, both any values, and that for nothing."""
        self.check_known(label)
        if not is_sign(fresh) or fresh in self.shelf:
            raise NotName(fresh)
        self.edit({fresh if own == label else own: thing for own, thing in self.shelf.items()})

    def thing(self, label):
        """Return the thing of a LABEL, any value."""
        self.check_known(label)
        return self.shelf[label]

    def labels(self):
        """Return the ascending LABELS that stand for something."""
        return tuple(sorted(self.shelf))

    def undo(self):
        """Bring back what the LABELS stood for ahead of the last edit."""
        if not self.done:
            raise Empty()
        self.undone.append(self.shelf)
        self.shelf = self.done.pop()

    def redo(self):
        """Bring back what the LABELS stood for behind the edit that was undone last."""
        if not self.undone:
            raise Empty()
        self.done.append(self.shelf)
        self.shelf = self.undone.pop()

    def copy(self):
        """Return a Desk in the same state, independent of this one."""
        twin = Desk()
        twin.shelf = self.shelf
        twin.done = list(self.done)
        twin.undone = list(self.undone)
        twin.book = list(self.book)
        return twin

    def three_of(self, formula, family, claim):
        """Return the FORMULA, the FAMILY and the CLAIM of three LABELS, any values, that are a case."""
        labels = (formula, family, claim)
        for label in labels:
            self.check_known(label)
        for label, kind in zip(labels, KINDS):
            if self.shelf[label][0] != kind:
                raise NotName(label)
        things = [self.shelf[label][1] for label in labels]
        need_served(things[1], things[0])
        check_claim(things[0], things[2])
        return tuple(things)

    def entry_with(self, key):
        """Return the entry with a KEY, None if there is none."""
        for entry in self.book:
            if entry[0] == key:
                return entry
        return None

    def entry_for(self, formula, family, claim):
        """Return the entry with the KEY of a case, None if there is none."""
        things = self.three_of(formula, family, claim)
        return self.entry_with(key_of(things[0], things[1], things[2]))

    def take(self, formula, family, claim, paper):
        """Return what any value as paper shows of a case, and put it into the book if that has none with its KEY."""
        things = self.three_of(formula, family, claim)
        word = check_judged(things[0], things[1], things[2], paper)
        if self.entry_with(key_of(things[0], things[1], things[2])) is None:
            self.enter(things, paper)
        return word

    def enter(self, things, paper):
        """Put a PAPER on the three things of a case into the book."""
        self.book.append((key_of(things[0], things[1], things[2]),) + things + (paper,))

    def ask(self, formula, family, claim):
        """Return the PAPER of a case's entry, made now if there is none."""
        entry = self.entry_for(formula, family, claim)
        if entry is not None:
            return entry[4]
        things = self.three_of(formula, family, claim)
        paper = judge(things[0], things[1], things[2])
        self.enter(things, paper)
        return paper

    def entries(self):
        """Return all entries in the order in which they were made."""
        return tuple(self.book)

    def verdict(self, formula, family, claim):
        """Return the first word of the PAPER of a case's entry, None if there is none."""
        entry = self.entry_for(formula, family, claim)
        return None if entry is None else entry[4][0]

    def paper(self, formula, family, claim):
        """Return (FORMULA, CLAIM, PAPER) of a case's entry."""
        entry = self.entry_for(formula, family, claim)
        if entry is None:
            raise Empty()
        return (entry[1], entry[3], entry[4])

    def follows(self, formula, family, claim):
        """Return "broken", "holds" or None: what follows from the book for a case."""
        things = self.three_of(formula, family, claim)
        proved = Proved(self.book)
        return word_that_follows(OnFormula(things[0], proved), OnFamily(things[1], proved), things[2])

    def hangs(self, label):
        """Return the ascending cases with a LABEL, any value, for which something follows."""
        self.check_known(label)
        return tuple([case for case, word in self.cases_with(label) if word is not None])

    def open_cases(self):
        """Return the ascending cases for which nothing follows."""
        return tuple([case for case, word in self.cases_with(None) if word is None])

    def cases_with(self, label):
        """Return the pairs, ascending, of the cases with a LABEL and what follows for each; None is for any LABEL."""
        proved = Proved(self.book)
        formulas, families, claims = [self.among(kind, label) for kind in KINDS]
        on_families = {own: OnFamily(self.shelf[own][1], proved) for own in families}
        found = []
        for formula in formulas:
            on_formula = OnFormula(self.shelf[formula][1], proved)
            taken = [own for own in claims if takes_claim(on_formula.formula, self.shelf[own][1])]
            for family in families:
                on_family = on_families[family]
                for claim in taken if is_served(on_family.family, on_formula.formula) else []:
                    word = word_that_follows(on_formula, on_family, self.shelf[claim][1])
                    found.append(((formula, family, claim), word))
        return found

    def among(self, kind, label):
        """Return the ascending LABELS of a kind of things: a LABEL alone if it is one of them."""
        if label is not None and self.shelf[label][0] == kind:
            return [label]
        return sorted([own for own, thing in self.shelf.items() if thing[0] == kind])


def is_served(family, formula):
    """Return whether a FAMILY serves a FORMULA."""
    try:
        need_served(family, formula)
    except NotFont:
        return False
    return True


def takes_claim(formula, claim):
    """Return whether check_claim takes a CLAIM for a FORMULA."""
    try:
        check_claim(formula, claim)
    except NotClaim:
        return False
    return True
