"""What follows from the entries of a book: (KEY, FORMULA, FAMILY, CLAIM, PAPER)."""

from everyfont.bars import holds_somewhere
from everyfont.claims import is_so_with
from everyfont.families import family_font, family_pairs, is_font_of
from everyfont.fonts import needed, numbers_for
from everyfont.following import claim_by, is_within, led_paths
from everyfont.plains import plain
from everyfont.steps import Written, values_of


class Proved:
    """What the entries of a book show: FONTS in which CLAIMS break, and what holds on which FAMILIES.

    Of each KEY that holds there are its first and its third thing and the number of its FAMILY.
    """

    def __init__(self, entries):
        self.fonts = []
        self.families = []
        self.held = []
        for key, _, family, _, paper in entries:
            if paper[0] == "holds":
                self.held.append((key[0], key[2], number_in(self.families, family)))
            else:
                number_in(self.fonts, family_font(family, paper[1]))


def number_in(found, thing):
    """Return the number of a thing in a list, behind all others if it was not there."""
    if thing not in found:
        found.append(thing)
    return found.index(thing)


class OnFormula:
    """A FORMULA: its plain form, where its PATHS lead, and its STEPS' values in those FONTS that are asked for."""

    def __init__(self, formula, proved):
        self.formula = formula
        self.proved = proved
        self.plain_form = plain(formula)
        self.places = led_paths(formula)
        self.written = Written(formula)
        self.known = {}

    def is_so_in(self, number, claim):
        """Return whether a CLAIM is so in the FONT with this number."""
        if number not in self.known:
            numbers = numbers_for(self.proved.fonts[number], needed(self.formula))
            self.known[number] = (numbers, values_of(self.written.steps, numbers))
        numbers, values = self.known[number]
        return is_so_with(self.written, numbers, values, claim)

    def ends_of_key(self, claim):
        """Return the first and the third thing of a CLAIM's KEY."""
        led = claim_by(self.places, claim)
        return (self.formula, claim) if led is None else (self.plain_form, led)


class OnFamily:
    """A FAMILY: which FONTS are its own, and within which of those of KEYS, as far as they are asked for, it is."""

    def __init__(self, family, proved):
        self.family = family
        self.proved = proved
        self.is_empty = not holds_somewhere(len(family[0]), family_pairs(family))
        self.own = [number for number, font in enumerate(proved.fonts) if is_font_of(family, font)]
        self.known = {}

    def is_within_proved(self, number):
        """Return whether it is within the FAMILY with this number."""
        if number not in self.known:
            self.known[number] = is_within(self.family, self.proved.families[number])
        return self.known[number]


def word_that_follows(on_formula, on_family, claim):
    """Return "broken", "holds" or None: what follows for a CLAIM on a FORMULA, on a FAMILY that serves it."""
    if not all([on_formula.is_so_in(number, claim) for number in on_family.own]):
        return "broken"
    return "holds" if does_hold(on_formula, on_family, claim) else None


def does_hold(on_formula, on_family, claim):
    """Return whether "holds" follows."""
    if on_family.is_empty or is_key_held(on_formula, on_family, claim):
        return True
    if claim[0] == "not":
        return claim[1][0] == "not" and does_hold(on_formula, on_family, claim[1][1])
    found = [does_hold(on_formula, on_family, part) for part in claim[1:] if claim[0] != "is"]
    return all(found) if claim[0] == "and" else any(found)


def is_key_held(on_formula, on_family, claim):
    """Return whether an entry shows that a CLAIM holds on a FAMILY within which this one is."""
    first, third = on_formula.ends_of_key(claim)
    for own_first, own_third, number in on_family.proved.held:
        if own_first == first and own_third == third and on_family.is_within_proved(number):
            return True
    return False
