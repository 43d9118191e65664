"""The lines of a SHEET that tell things, there and back."""

from math import gcd

from everyfont.claims import PLACE_WORDS, SIGNS
from everyfont.families import MOST_FAMILY_PAIRS, MOST_UNKNOWNS
from everyfont.fonts import is_lawful_number
from everyfont.formulas import MOST_DEPTH, MOST_WORDS
from everyfont.points import shared_divisor
from everyfont.systems import WORDS
from everyfont.texts import formula_from, formula_words, fraction_from, name_from

MOST_SUM_PAIRS = 60


def as_words(things):
    """Return the words of names and integers."""
    return [str(thing) for thing in things]


def thing_words(thing):
    """Return the list of the words that tell a thing behind its LABEL."""
    word, own = thing
    if word == "formula":
        return formula_words(own)
    return family_words(own) if word == "family" else words_of_claim(own)


def family_words(family):
    """Return the list of the words that tell a FAMILY."""
    names, fixed, system = family
    words = [str(len(names))]
    for name in names:
        words.extend(as_words(name))
    words.append(str(len(fixed)))
    for name, number in fixed:
        words.extend(as_words(name + number))
    words.append(str(len(system)))
    for word, row in system:
        words.append(word)
        words.extend(as_words(row))
    return words


def words_of_claim(claim):
    """Return the list of the words of a CLAIM's text."""
    if claim[0] != "is":
        words = [claim[0]] if claim[0] == "not" else [claim[0], str(len(claim) - 1)]
        for part in claim[1:]:
            words.extend(words_of_claim(part))
        return words
    words = [claim[0], claim[1], str(len(claim[2]))]
    for thing, share in claim[2]:
        words.extend(words_of_thing(thing) + as_words(share))
    return words


def words_of_thing(thing):
    """Return the list of the words of a THING of a CLAIM."""
    if thing is None:
        return ["one"]
    if isinstance(thing[0], str):
        return ["name"] + as_words(thing)
    path, word = thing
    return ["place", str(len(path))] + as_words(path) + [word]


def thing_from(reader, word):
    """Return the thing of a kind that a Reader's next words, those behind its LABEL, tell."""
    if word == "formula":
        return (word, formula_from(reader))
    return (word, family_from(reader) if word == "family" else claim_from(reader))


def family_from(reader):
    """Return the FAMILY that the next words tell."""
    names = []
    for _ in range(reader.integer_within(0, MOST_UNKNOWNS)):
        names.append(name_from(reader, names[-1] if names else None))
    fixed = []
    many = count_from(reader)
    # How many NAMES there are at all does not count: what is too many here lacks words, or order.
    while len(fixed) < many:
        name = name_from(reader, fixed[-1][0] if fixed else None)
        if name in names:
            reader.refuse()
        fixed.append((name, lawful_fraction_from(reader, name)))
    system = []
    for _ in range(reader.integer_within(0, MOST_FAMILY_PAIRS)):
        word = reader.one_of(WORDS)
        system.append((word, row_from(reader, len(names))))
    return (tuple(names), tuple(fixed), tuple(system))


def lawful_fraction_from(reader, name):
    """Return the FRACTION whose TOP and BOTTOM the next words are, lawful for a NAME."""
    top = reader.integer()
    if not is_lawful_number(name, (top, 1)):
        reader.refuse()
    bottom = reader.integer()
    if bottom < 1 or gcd(top, bottom) > 1:
        reader.refuse()
    return (top, bottom)


def row_from(reader, count):
    """Return the ROW of count numbers whose integers the next words are."""
    row = [reader.integer() for _ in range(count + 2)]
    if row[-1] < 1 or shared_divisor(row) > 1:
        reader.refuse()
    return tuple(row)


def claim_from(reader):
    """Return the CLAIM whose text the next words are."""
    reader.allow(MOST_WORDS)
    reader.want(1)
    return part_from(reader, 1)


def part_from(reader, depth):
    """Return the CLAIM whose text the next words are, so deep down; its parts that are wanted count at once."""
    word = reader.one_of(("is", "not", "and", "or"))
    if word == "is":
        sign = reader.one_of(tuple(SIGNS))
        return (word, sign, tuple([sum_pair_from(reader) for _ in range(reader.integer_within(0, MOST_SUM_PAIRS))]))
    many = 1 if word == "not" else reader.integer_within(0, MOST_WORDS)
    if many > 0 and depth == MOST_DEPTH:
        reader.refuse()
    reader.want(many)
    return (word,) + tuple([part_from(reader, depth + 1) for _ in range(many)])


def sum_pair_from(reader):
    """Return the pair (THING, FRACTION) of a SUM that the next words tell."""
    word = reader.one_of(("place", "name", "one"))
    thing = None
    if word == "name":
        thing = name_from(reader, None)
    elif word == "place":
        path = tuple([reader.integer_within(0, MOST_WORDS) for _ in range(count_from(reader))])
        thing = (path, reader.one_of(PLACE_WORDS))
    return (thing, fraction_from(reader))


def count_from(reader):
    """Return the integer from 0 that the next word tells."""
    many = reader.integer()
    if many < 0:
        reader.refuse()
    return many
