"""All errors of the package, each directly below `StayError`.

Fields are any values; they are kept as they are passed.
"""


class StayError(ValueError):
    """The base of all errors of the package."""


class BadWish(StayError):
    """What a wish is made of is wrong."""

    def __init__(self, part):
        self.part = part


class BadSite(StayError):
    """What a site is made of is wrong."""

    def __init__(self, part):
        self.part = part


class BadPlan(StayError):
    """What a plan is made of is wrong."""

    def __init__(self, part):
        self.part = part


class BadLimit(StayError):
    """What a limit is made of is wrong."""

    def __init__(self, part):
        self.part = part


class BadPromise(StayError):
    """What a promise is made of, or what should be one, is wrong."""

    def __init__(self, part):
        self.part = part


class BadRow(StayError):
    """An event of a row, or what should be a row, is wrong."""

    def __init__(self, at):
        self.at = at


class BadStock(StayError):
    """What a stock, or a part of one, is made of is wrong."""

    def __init__(self, part):
        self.part = part


class BadCounts(StayError):
    """What counts are made of, or what should be counts, is wrong."""

    def __init__(self, part):
        self.part = part


class BadRule(StayError):
    """A rule that tells lockers is wrong."""

    def __init__(self, part):
        self.part = part


class BadStay(StayError):
    """What a stay is made of, or what should be one, is wrong."""

    def __init__(self, part):
        self.part = part


class BadBook(StayError):
    """What a book is made of, or what should be one, is wrong."""

    def __init__(self, part):
        self.part = part


class BadCalendar(StayError):
    """What a calendar is made of, or what should be one, is wrong."""

    def __init__(self, part):
        self.part = part


class BadLines(StayError):
    """What the lines of a purse are made of, or what should be lines, is wrong."""

    def __init__(self, part):
        self.part = part


class BadHouse(StayError):
    """What should be a plan, a house or a part of one is none."""

    def __init__(self, part):
        self.part = part


class BadNumber(StayError):
    """A value is no number that fits."""

    def __init__(self, value):
        self.value = value


class BadName(StayError):
    """A value is no name."""

    def __init__(self, value):
        self.value = value


class BadText(StayError):
    """A word of a text cannot stand where it stands."""

    def __init__(self, line, word):
        self.line = line
        self.word = word


class BadLine(StayError):
    """A word of a line that a desk is told cannot stand where it stands."""

    def __init__(self, word):
        self.word = word


class NoWish(StayError):
    """There is no wish of this name."""

    def __init__(self, name):
        self.name = name


class NoSite(StayError):
    """There is no site of this name."""

    def __init__(self, name):
        self.name = name


class NoGuest(StayError):
    """There is no guest of this name."""

    def __init__(self, name):
        self.name = name


class NoHall(StayError):
    """There is no hall of this name."""

    def __init__(self, name):
        self.name = name


class NoGate(StayError):
    """There is no gate of this name."""

    def __init__(self, name):
        self.name = name


class Refused(StayError):
    """A part of the house refuses a coming guest."""

    def __init__(self, part, wish):
        self.part = part
        self.wish = wish


class NoBay(StayError):
    """Places refuse a guest of this wish in some let row."""

    def __init__(self, wish):
        self.wish = wish


class Unbounded(StayError):
    """There is no end to something."""

    def __init__(self, part):
        self.part = part


class Barred(StayError):
    """A deed is barred."""

    def __init__(self, word):
        self.word = word


class TooMany(StayError):
    """There is more of something than is looked at."""

    def __init__(self, what, most):
        self.what = what
        self.most = most


class Nothing(StayError):
    """There is nothing to take back."""
