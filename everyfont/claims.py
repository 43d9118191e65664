"""CLAIMS on the places of a FORMULA's parts: their form, whether they are so, and how they can be broken."""

from everyfont.errors import NotClaim, TooGreat
from everyfont.fonts import is_name, needed, numbers_for
from everyfont.formulas import MOST_DEPTH, MOST_WORDS, paths_of, word_of
from everyfont.numbers import MINUS_ONE, ONE, is_fraction, is_int, opposite, sign_of, times
from everyfont.steps import Written, sum_value, values_of

MOST_CONJUNCTIONS = 64

PLACE_WORDS = ("left", "base", "right", "top", "bottom")

# By the WORD of a CLAIM: the signs that its sum may have, and the WORD that tells the opposite.
SIGNS = {"lt": (-1,), "le": (-1, 0), "eq": (0,), "ne": (-1, 1), "ge": (0, 1), "gt": (1,)}
OPPOSITES = {"lt": "ge", "le": "gt", "eq": "ne", "ne": "eq", "ge": "lt", "gt": "le"}


def check_claim(formula, value):
    """Return any value that is a CLAIM on a FORMULA."""
    # A NAME is never the same as a PATH: so both may be looked up in one dict.
    return check_claim_with({thing: True for thing in paths_of(formula) + needed(formula)}, value)


def check_claim_with(known, value):
    """Return any value that is a CLAIM with PATHS and NAMES that are known, with any ones where that is None."""
    path = claim_fault(known, value, ())
    if path is None and (claim_words(value) > MOST_WORDS or claim_depth(value) > MOST_DEPTH):
        path = ()
    if path is not None:
        raise NotClaim(path)
    return value


def claim_fault(known, value, path):
    """Return the PATH of the first thing in any value that is not as told, None if there is none."""
    word = word_of(value)
    if word == "is" and len(value) == 3:
        if not isinstance(value[1], str) or value[1] not in SIGNS:
            return path + (1,)
        return sum_fault(known, value[2], path + (2,))
    if word not in ("not", "and", "or") or (word == "not" and len(value) != 2):
        return path
    for number, part in enumerate(value[1:]):
        fault = claim_fault(known, part, path + (number + 1,))
        if fault is not None:
            return fault
    return None


def sum_fault(known, value, path):
    """Return likewise the first PATH in any value that should be the SUM of a CLAIM."""
    if not isinstance(value, tuple):
        return path
    for number, pair in enumerate(value):
        if not isinstance(pair, tuple) or len(pair) != 2 or not is_thing(known, pair[0]) or not is_fraction(pair[1]):
            return path + (number,)
    return None


def is_thing(known, value):
    """Return whether any value is a PLACE, a NAME or None, with a PATH or NAME that is known."""
    if value is None:
        return True
    if not isinstance(value, tuple) or len(value) == 0:
        return False
    if isinstance(value[0], tuple):
        return len(value) == 2 and is_path(value[0]) and is_known(known, value[0]) and value[1] in PLACE_WORDS
    return is_name(value) and is_known(known, value)


def is_path(value):
    """Return whether any value is a tuple of integers from 0 to 60."""
    return isinstance(value, tuple) and all([is_int(place) and 0 <= place <= MOST_WORDS for place in value])


def is_known(known, thing):
    """Return whether a PATH or NAME is one of those that are known; where None is told, all are."""
    return known is None or thing in known


def claim_words(claim):
    """Return how many words a CLAIM has."""
    return 1 + sum([claim_words(part) for part in parts_in(claim)])


def claim_depth(claim):
    """Return how deep a CLAIM is."""
    return 1 + max([claim_depth(part) for part in parts_in(claim)], default=0)


def parts_in(claim):
    """Return the tuple of the CLAIMS of which a CLAIM is made."""
    return () if claim[0] == "is" else claim[1:]


def place_pairs(written, place):
    """Return the pairs (number of a STEP, FRACTION) that tell a PLACE."""
    path, word = place
    part = written.parts[path]
    if word == "left":
        return [(part.left, ONE)]
    if word == "right":
        return [(part.left, ONE), (part.wide, ONE)]
    if word == "top":
        return [(part.base, ONE), (part.high, ONE)]
    if word == "bottom":
        return [(part.base, ONE), (part.deep, MINUS_ONE)]
    return [(part.base, ONE)]


def unfolded(written, pairs):
    """Return the pairs of a SUM with each PLACE put in as a sum of STEPS."""
    found = []
    for thing, share in pairs:
        if isinstance(thing, tuple) and isinstance(thing[0], tuple):
            found.extend([(number, times(share, own)) for number, own in place_pairs(written, thing)])
        else:
            found.append((thing, share))
    return found


def is_so(formula, font, claim):
    """Return whether a CLAIM on a FORMULA is so in a FONT."""
    numbers = numbers_for(font, needed(formula))
    written = Written(formula)
    return is_so_with(written, numbers, values_of(written.steps, numbers), claim)


def is_so_with(written, numbers, values, claim):
    """Return the same with the FRACTIONS of the FONT and of the STEPS."""
    word = claim[0]
    if word == "is":
        return sign_of(sum_value(unfolded(written, claim[2]), numbers, values)[0]) in SIGNS[claim[1]]
    found = [is_so_with(written, numbers, values, part) for part in claim[1:]]
    if word == "not":
        return not found[0]
    return all(found) if word == "and" else any(found)


def opposite_sum(pairs):
    """Return a SUM with the opposite FRACTIONS."""
    return tuple([(thing, opposite(share)) for thing, share in pairs])


def broken(claim):
    """Return BROKEN of a CLAIM."""
    return ways_to(claim, False)


def ways_to(claim, is_kept):
    """Return MADE of a CLAIM that is to be kept, BROKEN of one that is not."""
    word = claim[0]
    if word == "is":
        return ways_to_stand(claim[1] if is_kept else OPPOSITES[claim[1]], claim[2])
    if word == "not":
        return ways_to(claim[1], not is_kept)
    ways = [ways_to(part, is_kept) for part in claim[1:]]
    return all_of(ways) if (word == "and") == is_kept else one_of(ways)


def ways_to_stand(word, pairs):
    """Return MADE of a SUM that stands to 0 as a WORD tells."""
    if word in ("ge", "gt", "eq"):
        return (((word, pairs),),)
    below = opposite_sum(pairs)
    if word == "le":
        return ((("ge", below),),)
    if word == "lt":
        return ((("gt", below),),)
    return ((("gt", below),), (("gt", pairs),))


def check_few_ways(many):
    """Refuse more conjunctions than there may be."""
    if many > MOST_CONJUNCTIONS:
        raise TooGreat(MOST_CONJUNCTIONS)


def one_of(ways):
    """Return the conjunctions of all parts, one part behind another."""
    found = []
    for own in ways:
        found.extend(own)
    check_few_ways(len(found))
    return tuple(found)


def all_of(ways):
    """Return all ways to put together one conjunction of each part, the first part's changing slowest."""
    many = 1
    for own in ways:
        many *= len(own)
    check_few_ways(many)
    # Where a part has none, there may be too many on the way.
    if many == 0:
        return ()
    found = [()]
    for own in ways:
        found = [ahead + conjunction for ahead in found for conjunction in own]
    return tuple(found)


def fits(width):
    """Return the CLAIM that the whole's right is at most a FRACTION."""
    return ("is", "le", ((((), "right"), ONE), (None, opposite(width))))


def is_at_most(place, other):
    """Return the CLAIM that a PLACE is at most another one."""
    return ("is", "le", ((place, ONE), (other, MINUS_ONE)))


def apart(path, other):
    """Return the CLAIM that two parts stand beside or above one another."""
    return (
        "or",
        is_at_most((path, "right"), (other, "left")),
        is_at_most((other, "right"), (path, "left")),
        is_at_most((path, "top"), (other, "bottom")),
        is_at_most((other, "top"), (path, "bottom")),
    )
