"""The words of a line: what stands between its blanks, read one by one."""

from everyfont.errors import NotText
from everyfont.formulas import is_sign

MOST_DIGITS = 1000


def integer_of(word):
    """Return the integer that a word tells in decimal, None if it tells none of at most 1,000 digits."""
    digits = word[1:] if word.startswith("-") else word
    # The length comes first: Python turns no words of any length into integers.
    if not 1 <= len(digits) <= MOST_DIGITS or not all(["0" <= digit <= "9" for digit in digits]):
        return None
    if digits[0] == "0" and word != "0":
        return None
    return int(word)


class Reader:
    """One line's words, and how many are read; what cannot stand where it stands is refused with its number."""

    def __init__(self, line, text):
        self.line = line
        self.words = text.split(" ")
        self.many = 0
        self.spare = 0

    def next_word(self):
        """Return the next word."""
        if self.many == len(self.words):
            raise NotText(self.line, self.many)
        self.many += 1
        return self.words[self.many - 1]

    def refuse(self):
        """Refuse the word that was read last."""
        raise NotText(self.line, self.many - 1)

    def one_of(self, words):
        """Return the next word, one of these."""
        word = self.next_word()
        if word not in words:
            self.refuse()
        return word

    def sign(self):
        """Return the next word, a SIGN."""
        word = self.next_word()
        if not is_sign(word):
            self.refuse()
        return word

    def integer(self):
        """Return the integer that the next word tells."""
        integer = integer_of(self.next_word())
        if integer is None:
            self.refuse()
        return integer

    def integer_within(self, low, most):
        """Return the integer that the next word tells, from low to most."""
        integer = self.integer()
        if not low <= integer <= most:
            self.refuse()
        return integer

    def allow(self, parts):
        """Let so many parts be wanted from now on."""
        self.spare = parts

    def want(self, parts):
        """Take it that the word that was read last wants so many further parts; refuse it if they are too many."""
        self.spare -= parts
        if self.spare < 0:
            self.refuse()

    def close(self):
        """Refuse a further word."""
        if self.many < len(self.words):
            raise NotText(self.line, self.many)
