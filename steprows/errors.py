"""The errors of the package; each keeps what it was made with."""


class StepError(ValueError):
    """The base of all other errors of the package."""


class BadNumber(StepError):
    """An argument is no integer or no ratio, or lies outside its bounds."""

    def __init__(self, name):
        self.name = name


class BadWeb(StepError):
    """The ties do not make a web."""

    def __init__(self, place):
        self.place = place


class NoTie(StepError):
    """The two places asked for are not tied."""

    def __init__(self, first, second):
        self.first = first
        self.second = second


class BadPlace(StepError):
    """A value that is no place, or repeats one."""

    def __init__(self, place):
        self.place = place


class BadKind(StepError):
    """A value that is no kind, or not one that may stand here."""

    def __init__(self, kind):
        self.kind = kind


class BadCounts(StepError):
    """The counts do not make a crowd."""

    def __init__(self, place):
        self.place = place


class BadWord(StepError):
    """A word that is wrong, or a row of words that is no walk."""

    def __init__(self, place):
        self.place = place


class BadTable(StepError):
    """A table, or a row of tables or numbers, that is wrong."""

    def __init__(self, place):
        self.place = place


class Unfit(StepError):
    """Two arguments do not fit."""


class NotFull(StepError):
    """The run is not full."""


class NotKept(StepError):
    """The ratio table is not kept; along the closed walk its product is not 1."""

    def __init__(self, walk):
        self.walk = walk


class NotLocal(StepError):
    """The shares are not local."""


class NotRing(StepError):
    """The web is not a ring."""


class NotLoose(StepError):
    """The web is not loose."""


class NotRoomy(StepError):
    """The crowd is not roomy."""


class NotJoined(StepError):
    """The kinds do not join."""


class BadLot(StepError):
    """A lot or a parting of kinds is wrong."""

    def __init__(self, place):
        self.place = place


class BadFlow(StepError):
    """The flows asked for are wrong."""

    def __init__(self, kind):
        self.kind = kind


class BadRow(StepError):
    """A row of places is wrong."""

    def __init__(self, place):
        self.place = place


class TooMany(StepError):
    """There are more things than the function lists."""

    def __init__(self, number):
        self.number = number


class BadText(StepError):
    """A text cannot be read."""

    def __init__(self, line):
        self.line = line
