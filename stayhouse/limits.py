"""Limits: sums of guests, each with a weight, that have a bound."""

from stayhouse.checks import GREATEST, is_amount, is_within
from stayhouse.counts import Counts, counts_in, numbers_at
from stayhouse.errors import BadCounts, BadLimit, BadNumber
from stayhouse.words import end_at, number_at, stand_at, word_at, words_of


class Weighed:
    """A bound and the Counts of the weights, both looked at."""

    def __init__(self, bound, weights):
        self.bound = bound
        self.weights = weights


def weighed(bound, weights):
    """The Weighed of any values; raises as the limits."""
    if not is_within(bound, 0, GREATEST):
        raise BadLimit("bound")
    return Weighed(bound, counts_in(weights))


class Limit:
    """A limit at once."""

    YEARLY = False

    def __init__(self, bound, **weights):
        # A wish can be called `bound`, too: its weight cannot come by name, but comes in a Weighed.
        told = bound if isinstance(bound, Weighed) else weighed(bound, weights)
        self.bound = told.bound
        self.weights = told.weights

    @classmethod
    def of(cls, bound, weights):
        """The Limit with the weights of a dict."""
        return cls(weighed(bound, weights))

    @classmethod
    def read(cls, text):
        """The Limit or the YearLimit that a text tells."""
        return limit_of(words_of(text))

    def weigh(self, counts):
        """The sum of weight times number."""
        if not isinstance(counts, Counts):
            raise BadCounts("counts")
        # Names that only one of both has weigh nothing: the fewer names will do.
        fewer = counts.names if len(counts.names) < len(self.weights.names) else self.weights.names
        return sum([self.weights[name] * counts[name] for name in fewer])

    def keeps(self, counts):
        """Whether the sum is at most the bound."""
        return self.weigh(counts) <= self.bound

    def __add__(self, number):
        if not is_amount(number):
            raise BadNumber(number)
        return rebound(self, self.bound + number)

    def __sub__(self, number):
        if not is_amount(number):
            raise BadNumber(number)
        return rebound(self, self.bound - number)

    def __eq__(self, other):
        return isinstance(other, Limit) and limit_parts(self) == limit_parts(other)

    def __str__(self):
        return f"{kind_text(self)} {self.bound} : {self.weights}"


class YearLimit(Limit):
    """A limit in a year."""

    YEARLY = True

    def __init__(self, bound, **weights):
        told = bound if isinstance(bound, Weighed) else weighed(bound, weights)
        self.bound = told.bound
        self.weights = told.weights

    @classmethod
    def of(cls, bound, weights):
        """The YearLimit with the weights of a dict."""
        return cls(weighed(bound, weights))

    @classmethod
    def read(cls, text):
        """The Limit or the YearLimit that a text tells."""
        return limit_of(words_of(text))


def limit_parts(limit):
    """What makes limits equal."""
    return limit.YEARLY, limit.bound, limit.weights


def kind_text(limit):
    """The first word of the text of a limit."""
    return "year" if limit.YEARLY else "once"


def rebound(limit, bound):
    """A limit of the same class with another bound."""
    if not is_within(bound, 0, GREATEST):
        raise BadLimit("bound")
    told = Weighed(bound, limit.weights)
    return YearLimit(told) if limit.YEARLY else Limit(told)


def limit_at(words, at):
    """The limit that stands from an index on; the index behind it."""
    yearly = word_at(words, at) == "year"
    if not yearly:
        stand_at(words, at, "once")
    bound = number_at(words, at + 1, 0, GREATEST)
    stand_at(words, at + 2, ":")
    weights, behind = numbers_at(words, at + 3, GREATEST)
    if yearly:
        return YearLimit.of(bound, weights), behind
    return Limit.of(bound, weights), behind


def limit_of(words):
    """The limit that all the words tell."""
    limit, behind = limit_at(words, 0)
    end_at(words, behind)
    return limit
