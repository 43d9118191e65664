"""The errors of the package; each keeps its arguments as attributes of the same names."""


class FontError(ValueError):
    """What all errors of the package stand beneath."""


class NotNumber(FontError):
    """A value that is no FRACTION, or that cannot stand where it stands."""

    def __init__(self, value):
        self.value = value


class NotPoint(FontError):
    """A value that is no POINT."""

    def __init__(self, place):
        self.place = place


class NotRow(FontError):
    """A value that is no ROW, or no TOP of ROWS."""

    def __init__(self, place):
        self.place = place


class NotFormula(FontError):
    """A value that is no FORMULA, or a PATH that leads to none."""

    def __init__(self, path):
        self.path = path


class NotFont(FontError):
    """A value that is no FONT, or a NAME that a FONT does not have."""

    def __init__(self, name):
        self.name = name


class NotFamily(FontError):
    """A value that is no FAMILY."""

    def __init__(self, place):
        self.place = place


class NotSystem(FontError):
    """A value that is no SYSTEM."""

    def __init__(self, number):
        self.number = number


class NotClaim(FontError):
    """A value that is no CLAIM."""

    def __init__(self, path):
        self.path = path


class NotPicture(FontError):
    """ITEMS that no FORMULA has."""

    def __init__(self, number):
        self.number = number


class NotText(FontError):
    """A value that is no text."""

    def __init__(self, line, word):
        self.line = line
        self.word = word


class NotPaper(FontError):
    """A value that is no paper, or shows nothing."""

    def __init__(self, path):
        self.path = path


class NotName(FontError):
    """A value that is no NAME, no word or no LABEL."""

    def __init__(self, name):
        self.name = name


class NotGrid(FontError):
    """A value that is no GRID."""

    def __init__(self, number):
        self.number = number


class Unlike(FontError):
    """Arguments that do not go together."""


class Empty(FontError):
    """Nothing is there."""


class Endless(FontError):
    """There is no bound."""


class TooGreat(FontError):
    """More than most."""

    def __init__(self, most):
        self.most = most
