"""Promises: how many guests there may be at once and in a year."""

from stayhouse.checks import is_sequence
from stayhouse.counts import Counts
from stayhouse.errors import BadCounts, BadPromise, BadText, TooMany
from stayhouse.limits import Limit, limit_at
from stayhouse.weighing import bounds_of, column_of, counts_from, fits, full_tallies, tallies
from stayhouse.words import end_at, stand_at, word_at, words_of

MOST_LIMITS = 20
MOST_WISHES = 100


def weighed_names(limits):
    """The ascending tuple of the names that the limits weigh above 0."""
    names = {}
    for limit in limits:
        for name in limit.weights.names:
            names[name] = True
    return tuple(sorted([str(name) for name in names]))


def limits_that(limits, yearly):
    """Those of the limits that hold in a year, or those that hold at once."""
    return tuple([limit for limit in limits if limit.YEARLY == yearly])


def check_promise(promise):
    """Raises unless any value is a Promise."""
    if not isinstance(promise, Promise):
        raise BadPromise("promise")


class Promise:
    """What the owner promises: limits at once and limits in a year."""

    def __init__(self, *limits):
        for at, limit in enumerate(limits):
            if not isinstance(limit, Limit):
                raise BadPromise(at)
        if len(limits) > MOST_LIMITS:
            raise TooMany("limits", MOST_LIMITS)
        wishes = weighed_names(limits_that(limits, False))
        if len(wishes) > MOST_WISHES:
            raise TooMany("wishes", MOST_WISHES)
        yearly = weighed_names(limits_that(limits, True))
        bounds = bounds_of(limits)
        self.limits = limits
        self.wishes = wishes
        self.counted = tuple([name for name in wishes if name in yearly])
        # Those who can come, of the wishes and of the counted ones: nobody else is ever in a let row.
        self.comers = tuple([name for name in wishes if fits(column_of(name, limits), bounds)])
        self.counted_comers = tuple([name for name in self.comers if name in yearly])

    @staticmethod
    def of(limits):
        """The Promise of a list or tuple."""
        return promise_in(limits)

    @classmethod
    def read(cls, text):
        """The Promise that a text tells."""
        words = words_of(text)
        if word_at(words, 0) == "-":
            end_at(words, 1)
            return promise_in([])
        limit, at = limit_at(words, 0)
        limits = [limit]
        while at < len(words):
            stand_at(words, at, ";")
            if len(limits) == MOST_LIMITS:
                raise BadText(0, at)
            limit, at = limit_at(words, at + 1)
            limits.append(limit)
        return promise_in(limits)

    def __len__(self):
        return len(self.limits)

    def __iter__(self):
        return iter(self.limits)

    def __contains__(self, value):
        return isinstance(value, Limit) and value in self.limits

    def __and__(self, other):
        if not isinstance(other, Promise):
            raise BadPromise("other")
        return promise_in(self.limits + lacked_by(self, other))

    def __le__(self, other):
        if not isinstance(other, Promise):
            raise BadPromise("other")
        # Both are asked for first: they tell when there are too many, whatever the answer is.
        peaks = self.peaks()
        year_peaks = self.year_peaks()
        return lets_all(self, peaks, year_peaks, other)

    def __eq__(self, other):
        return isinstance(other, Promise) and self.limits == other.limits

    def __str__(self):
        if not self.limits:
            return "-"
        return " ; ".join([str(limit) for limit in self.limits])

    def keeps(self, standing, year):
        """Whether a standing and a year are of wishes of the promise alone, and keep its limits."""
        if not isinstance(standing, Counts):
            raise BadCounts("standing")
        if not isinstance(year, Counts):
            raise BadCounts("year")
        if not all([name in self.wishes for name in standing.names + year.names]):
            return False
        return all([limit.keeps(year if limit.YEARLY else standing) for limit in self.limits])

    def can_come(self, name):
        """Whether any value is a wish of which one guest alone keeps all limits."""
        return isinstance(name, str) and name in self.comers

    def standings(self):
        """All standings that come about, ascending."""
        columns, bounds = standing_frame(self)
        for numbers, _ in tallies(columns, bounds, "standings"):
            yield counts_from(self.comers, numbers)

    def years(self):
        """All years of counted wishes that come about, ascending."""
        columns, bounds = year_frame(self)
        for numbers, _ in tallies(columns, bounds, "years"):
            yield counts_from(self.counted_comers, numbers)

    def peaks(self):
        """The standings that come about than which no other one is greater."""
        columns, bounds = standing_frame(self)
        found = full_tallies(columns, bounds, "standings")
        return tuple([counts_from(self.comers, numbers) for numbers in found])

    def year_peaks(self):
        """The years of counted wishes that come about than which no other one is greater."""
        columns, bounds = year_frame(self)
        found = full_tallies(columns, bounds, "years")
        return tuple([counts_from(self.counted_comers, numbers) for numbers in found])

    def needless(self):
        """The indexes of the limits each of which, left out alone, leaves the same let rows."""
        # Those of this promise are the same for each index: if there are too many, the first one tells.
        peaks = self.peaks()
        year_peaks = self.year_peaks()
        found = []
        for at in range(len(self.limits)):
            rest = promise_in(self.limits[:at] + self.limits[at + 1:])
            fewer = rest <= self
            if fewer and lets_all(self, peaks, year_peaks, rest):
                found.append(at)
        return tuple(found)


def promise_in(limits):
    """The Promise of any value that is a list or tuple."""
    if not is_sequence(limits):
        raise BadPromise("limits")
    return Promise(*limits)


def standing_frame(promise):
    """The columns of those who can come, and the bounds, that standings keep: taken as years, those of a year, too."""
    columns = [column_of(name, promise.limits) for name in promise.comers]
    return columns, bounds_of(promise.limits)


def year_frame(promise):
    """The columns of the counted wishes that can come, and the bounds, that years keep."""
    limits = limits_that(promise.limits, True)
    columns = [column_of(name, limits) for name in promise.counted_comers]
    return columns, bounds_of(limits)


def lacked_by(promise, other):
    """The limits of other that a promise lacks, each as often as it stands there."""
    return tuple([limit for limit in other.limits if limit not in promise.limits])


def lets_all(promise, peaks, year_peaks, other):
    """Whether other lets each row that a promise with these peaks lets."""
    yearly = weighed_names(limits_that(other.limits, True))
    for name in promise.comers:
        # Of a wish that is not counted any number comes in a year.
        if name not in other.wishes or (name in yearly and name not in promise.counted):
            return False
    # The limits that it has itself are kept by its own peaks.
    for limit in lacked_by(promise, other):
        if not all([limit.keeps(peak) for peak in (year_peaks if limit.YEARLY else peaks)]):
            return False
    return True


def greatest(promise, prices):
    """The greatest sum of price times number over all standings that come about, and the first one that has it."""
    check_promise(promise)
    if not isinstance(prices, Counts):
        raise BadCounts("prices")
    columns, bounds = standing_frame(promise)
    worth = [prices[name] for name in promise.comers]
    most = -1
    best = ()
    for numbers, _ in tallies(columns, bounds, "standings"):
        total = sum([price * number for price, number in zip(worth, numbers)])
        if total > most:
            most = total
            best = numbers
    return most, counts_from(promise.comers, best)
