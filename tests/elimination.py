"""Where a SYSTEM of few unknowns holds, found in another way: unknowns are eliminated one by one (Fourier, Motzkin)."""

from fractions import Fraction


def parts_of(pair):
    """Return (word, coefficients, constant) with Python's fractions."""
    word, row = pair
    return word, tuple(Fraction(top, row[-1]) for top in row[:-2]), Fraction(row[-2], row[-1])


def times_plus(one, factor, other):
    """Return one times a factor plus other, both (coefficients, constant)."""
    return (
        tuple(factor * left + right for left, right in zip(one[0], other[0])), factor * one[1] + other[1])


def without_first(pairs):
    """Return pairs (word, coefficients, constant) that hold where some first unknown makes the given ones hold."""
    for number, (word, coefficients, constant) in enumerate(pairs):
        if word == "eq" and coefficients[0] != 0:
            others = pairs[:number] + pairs[number + 1:]
            return [
                (own, *times_plus((coefficients, constant), -own_coefficients[0] / coefficients[0],
                                  (own_coefficients, own_constant)))
                for own, own_coefficients, own_constant in others]
    found = [pair for pair in pairs if pair[1][0] == 0]
    lower = [pair for pair in pairs if pair[1][0] > 0]
    upper = [pair for pair in pairs if pair[1][0] < 0]
    for low in lower:
        for high in upper:
            word = "gt" if "gt" in (low[0], high[0]) else "ge"
            found.append((word, *times_plus(low[1:], -high[1][0] / low[1][0], high[1:])))
    return found


def shorter(pairs):
    """Return the pairs without their first coefficient, which is 0, and without repetition."""
    return list(dict.fromkeys((word, coefficients[1:], constant) for word, coefficients, constant in pairs))


def eliminated(count, pairs):
    """Return what is left of pairs once the first count unknowns are gone."""
    for _ in range(count):
        pairs = shorter(without_first(pairs))
    return pairs


def constant_holds(word, constant):
    """Return whether a pair without unknowns holds."""
    return {"ge": constant >= 0, "gt": constant > 0, "eq": constant == 0}[word]


def somewhere(count, system):
    """Return whether a SYSTEM holds at some POINT."""
    left = eliminated(count, [parts_of(pair) for pair in system])
    return all(constant_holds(word, constant) for word, _, constant in left)


def as_pair(number):
    """Return the FRACTION of one of Python's fractions."""
    return (number.numerator, number.denominator)


def values_of(count, system, row):
    """Return None if a SYSTEM holds nowhere, else the pair of what least and greatest tell of a ROW, as range_of does."""
    if not somewhere(count, system):
        return None
    pairs = []
    for word, coefficients, constant in map(parts_of, system):
        pairs.append((word, coefficients + (Fraction(0),), constant))
    _, coefficients, constant = parts_of(("eq", row))
    pairs.append(("eq", coefficients + (Fraction(-1),), constant))
    low = high = None
    for word, (slope,), constant in eliminated(count, pairs):
        if slope != 0:
            bound = (-constant / slope, word != "gt")
            if (slope > 0 or word == "eq") and (low is None or (bound[0], not bound[1]) > (low[0], not low[1])):
                low = bound
            if (slope < 0 or word == "eq") and (high is None or bound < high):
                high = bound
    return tuple(None if bound is None else (as_pair(bound[0]), bound[1]) for bound in (low, high))
