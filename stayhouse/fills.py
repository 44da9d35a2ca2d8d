"""Fills: whether the free nights of a calendar can be sold, by stays that a book lets."""

from stayhouse.books import check_book
from stayhouse.calendars import check_calendar
from stayhouse.flows import days_of, filled
from stayhouse.papers import Denial, Paper, lasting
from stayhouse.stays import Stay


class Fill(Paper):
    """A calendar is sellable: let stays, each so many times, that lie just over its free nights."""

    def __init__(self, parts):
        self.parts = lasting(parts)

    def kept(self):
        """What the paper keeps."""
        return (self.parts,)


class Bar(Denial):
    """A calendar is not sellable: days out of which no let stay leads, and on which more comes free than is taken."""

    def __init__(self, days):
        self.days = lasting(days)

    def kept(self):
        """What the paper keeps."""
        return (self.days,)


def fill_of(calendar, book):
    """A Fill if a calendar is sellable by a book, a Bar otherwise."""
    check_calendar(calendar)
    check_book(book)
    flow, bar = filled(calendar, book)
    if bar > 0:
        return Bar(days_from(calendar.first, bar))
    parts = sorted(set([(begin, end) for begin, end in flow.amounts]))
    first = calendar.first
    return Fill(tuple([(Stay(first + begin, first + end), flow.amounts[(begin, end)]) for begin, end in parts]))


def days_from(first, bits):
    """The ascending tuple of the days, counted from a first one, whose bits are told."""
    return tuple([first + at for at in days_of(bits)])


def is_sellable(calendar, book):
    """Whether a calendar is sellable by a book."""
    check_calendar(calendar)
    check_book(book)
    return filled(calendar, book)[1] == 0
