"""Stays: the nights from a first day to a later one."""

from stayhouse.checks import is_integer, is_within
from stayhouse.errors import BadNumber, BadStay, BadText
from stayhouse.words import end_at, integer_of, stand_at, word_at, words_of


class Stay:
    """The nights from the first day to the one ahead of the day after; it never changes."""

    def __init__(self, first, after):
        if not is_integer(first):
            raise BadStay("first")
        if not is_integer(after) or after <= first:
            raise BadStay("after")
        self.first = first
        self.after = after

    @classmethod
    def read(cls, text):
        """The Stay that a text tells."""
        words = words_of(text)
        first, after = days_at(words, 0)
        end_at(words, 3)
        return cls(first, after)

    @property
    def nights(self):
        """How many nights the stay has."""
        return self.after - self.first

    def __contains__(self, day):
        return is_within(day, self.first, self.after - 1)

    def __lshift__(self, n):
        if not is_integer(n):
            raise BadNumber(n)
        return Stay(self.first - n, self.after - n)

    def __rshift__(self, n):
        if not is_integer(n):
            raise BadNumber(n)
        return Stay(self.first + n, self.after + n)

    def __le__(self, other):
        if not isinstance(other, Stay):
            raise BadStay("other")
        return is_inside(self, other.first, other.after)

    def __eq__(self, other):
        return isinstance(other, Stay) and self.first == other.first and self.after == other.after

    def __str__(self):
        return f"{self.first} to {self.after}"


def is_inside(stay, first, after):
    """Whether all nights of a stay are among those from a first day to a day after."""
    return first <= stay.first and stay.after <= after


def check_stay(stay):
    """Raises unless any value is a Stay."""
    if not isinstance(stay, Stay):
        raise BadStay("stay")


def day_at(words, at):
    """The day, any integer, that stands at an index."""
    day = integer_of(word_at(words, at))
    if day is None:
        raise BadText(0, at)
    return day


def days_at(words, at):
    """The two days, with `to` between them, that stand from an index on."""
    first = day_at(words, at)
    stand_at(words, at + 1, "to")
    return first, day_at(words, at + 2)
