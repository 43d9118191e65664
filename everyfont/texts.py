"""The texts of FORMULAS and FONTS, there and back."""

from math import gcd

from everyfont.errors import NotText
from everyfont.fonts import LEVEL_WORDS, MOST_LEVEL, SIGN_WORDS
from everyfont.formulas import MOST_DEPTH, MOST_WORDS, NO_BASES, WANTED, WITH_SIGN, thing_at, ways_down
from everyfont.words import Reader


def formula_text(formula):
    """Return the text of a FORMULA."""
    return " ".join(formula_words(formula))


def formula_words(formula):
    """Return the list of the words of a FORMULA's text."""
    words = [formula[0]]
    if formula[0] in WITH_SIGN:
        words.append(formula[1])
    if formula[0] == "row":
        words.append(str(len(formula) - 1))
    if formula[0] == "table":
        words.extend([str(len(formula[1])), str(len(formula[1][0]))])
    for way in ways_down(formula):
        words.extend(formula_words(thing_at(formula, way)))
    return words


def read_formula(text):
    """Return the FORMULA of any value as text."""
    if not isinstance(text, str):
        raise NotText(None, None)
    reader = Reader(0, text)
    formula = formula_from(reader)
    reader.close()
    return formula


def formula_from(reader):
    """Return the FORMULA whose text a Reader's next words are."""
    reader.allow(MOST_WORDS)
    reader.want(1)
    return part_from(reader, 1, False)


def may_stand(word, depth, is_base):
    """Return whether a word may begin a FORMULA so deep down, one that carries raised or lowered parts or not."""
    if word == "sign":
        return True
    if depth >= MOST_DEPTH or (is_base and word in NO_BASES):
        return False
    return word == "row" or word in WANTED


def part_from(reader, depth, is_base):
    """Return the FORMULA whose text the next words are, so deep down; its words that are wanted count at once."""
    word = reader.next_word()
    if not may_stand(word, depth, is_base):
        reader.refuse()
    if word == "row":
        return ("row",) + parts_from(reader, depth, row_length_from(reader))
    if word == "table":
        return ("table", rows_from(reader, depth))
    kinds = WANTED[word]
    reader.want(len([kind for kind in kinds if kind != "sign"]))
    things = [word]
    for kind in kinds:
        things.append(reader.sign() if kind == "sign" else part_from(reader, depth + 1, kind == "base"))
    return tuple(things)


def row_length_from(reader):
    """Return how many parts a row has, behind its word."""
    reader.want(1)
    many = reader.integer_within(1, MOST_WORDS)
    reader.want(many - 1)
    return many


def parts_from(reader, depth, many):
    """Return the tuple of so many parts of a FORMULA so deep down."""
    return tuple([part_from(reader, depth + 1, False) for _ in range(many)])


def rows_from(reader, depth):
    """Return the ROWS of a table, behind its word."""
    rows = row_length_from(reader)
    columns = reader.integer_within(1, MOST_WORDS)
    reader.want(rows * (columns - 1))
    return tuple([parts_from(reader, depth, columns) for _ in range(rows)])


def font_text(font):
    """Return the text of a FONT."""
    return "\n".join([" ".join([str(thing) for thing in name + number]) for name, number in font])


def read_font(text):
    """Return the FONT of any value as text."""
    if not isinstance(text, str):
        raise NotText(None, None)
    if text == "":
        return ()
    pairs = []
    last = None
    for line, words in enumerate(text.split("\n")):
        reader = Reader(line, words)
        last = name_from(reader, last)
        pairs.append((last, fraction_from(reader)))
        reader.close()
    return tuple(pairs)


def name_from(reader, last):
    """Return the NAME whose text the next words are, greater than the last one unless that is None."""
    word = reader.one_of(SIGN_WORDS + LEVEL_WORDS)
    letters = (reader.sign(),) if word in SIGN_WORDS else ()
    name = (word,) + letters + (reader.integer_within(0, MOST_LEVEL),)
    if last is not None and name <= last:
        reader.refuse()
    return name


def fraction_from(reader):
    """Return the FRACTION whose TOP and BOTTOM the next words are."""
    top, bottom = reader.integer(), reader.integer()
    if bottom < 1 or gcd(top, bottom) > 1:
        reader.refuse()
    return (top, bottom)
