"""SHEETS: the things of a DESK as lines of words, and claims in further lines that are judged."""

from everyfont.desks import KINDS, MOST_LABELS, Desk
from everyfont.errors import NotText
from everyfont.prover import judge
from everyfont.things import thing_from, thing_words
from everyfont.words import Reader


def desk_text(desk):
    """Return the lines for all LABELS of a Desk, ascending."""
    lines = []
    for label in desk.labels():
        thing = desk.thing(label)
        lines.append(" ".join([thing[0], label] + thing_words(thing)))
    return "\n".join(lines)


class Sheet:
    """The things by their LABELS, and of each "holds" line whether it is without "not", and its LABELS."""

    def __init__(self):
        self.things = {}
        self.holding = []

    def read(self, reader, with_holds):
        """Read a line, also a "holds" line or not."""
        kinds = () if self.holding else KINDS
        word = reader.one_of(kinds + (("holds", "not") if with_holds else ()))
        if word in KINDS:
            label = self.fresh_label(reader)
            self.things[label] = thing_from(reader, word)
        else:
            if word == "not":
                reader.one_of(("holds",))
            self.holding.append((word == "holds", tuple([reader.sign() for _ in KINDS])))
        reader.close()

    def fresh_label(self, reader):
        """Return the LABEL that the next word is, for which there has to be a place."""
        label = reader.sign()
        if label not in self.things and len(self.things) == MOST_LABELS:
            reader.refuse()
        return label


def sheet_of(text, with_holds):
    """Return the Sheet of any value as text."""
    if not isinstance(text, str):
        raise NotText(None, None)
    sheet = Sheet()
    if text != "":
        for number, line in enumerate(text.split("\n")):
            sheet.read(Reader(number, line), with_holds)
    return sheet


def desk_of(sheet):
    """Return a Desk with the things of a Sheet."""
    desk = Desk()
    desk.shelf = sheet.things
    return desk


def read_desk(text):
    """Return a Desk with the things of any value as text."""
    return desk_of(sheet_of(text, False))


def judged(text):
    """Return for each "holds" line of any value as text whether what it tells is so."""
    sheet = sheet_of(text, True)
    desk = desk_of(sheet)
    cases = []
    for is_wanted, labels in sheet.holding:
        cases.append((is_wanted, desk.three_of(labels[0], labels[1], labels[2])))
    return tuple([(judge(own[0], own[1], own[2])[0] == "holds") == is_wanted for is_wanted, own in cases])
