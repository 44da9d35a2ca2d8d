"""Fittings: where a thing is put, among the free lockers of a hall."""

from stayhouse.checks import MOST_SIZE, is_sequence, is_within
from stayhouse.errors import BadNumber, BadRule, BadStock, BadText, StayError, TooMany
from stayhouse.racks import Rack
from stayhouse.words import end_at, number_at, number_of, stand_at, word_at, words_of

MOST_DEEP = 100


def check_asked(free, size):
    """Raises unless a fitting is asked for a Rack and the size of a thing."""
    if not isinstance(free, Rack):
        raise BadStock("free")
    if not is_within(size, 1, MOST_SIZE):
        raise BadNumber(size)


def fitting_lockers(free, size):
    """The ascending list of the sizes of free lockers that are not below a thing."""
    return [locker for locker in free if locker >= size]


class Fitting:
    """The base of all fittings; it is not made itself, and would put nothing anywhere."""

    def __call__(self, free, size):
        check_asked(free, size)
        return None

    @classmethod
    def read(cls, text):
        """The Fitting that a text tells."""
        words = words_of(text)
        told, behind = fitting_at(words, 0, 0)
        end_at(words, behind)
        return told

    def __or__(self, other):
        if not isinstance(other, Fitting):
            raise BadRule("other")
        deep = 1 + max(int(deep_of(self)), int(deep_of(other)))
        if deep > MOST_DEEP:
            raise TooMany("deep", MOST_DEEP)
        return Joined(self, other, deep)


class Least(Fitting):
    """The least fitting size."""

    def __call__(self, free, size):
        check_asked(free, size)
        lockers = fitting_lockers(free, size)
        return lockers[0] if lockers else None

    def __eq__(self, other):
        return isinstance(other, Least)

    def __str__(self):
        return "least"


class Greatest(Fitting):
    """The greatest fitting size."""

    def __call__(self, free, size):
        check_asked(free, size)
        lockers = fitting_lockers(free, size)
        return lockers[-1] if lockers else None

    def __eq__(self, other):
        return isinstance(other, Greatest)

    def __str__(self):
        return "greatest"


class Order(Fitting):
    """For each size of things the sizes of lockers, in the order in which they are looked for."""

    def __init__(self, table):
        if not isinstance(table, dict) or not all([are_lockers(size, table[size]) for size in table]):
            raise BadRule("table")
        sizes = sorted([int(size) for size in table])
        self.table = tuple([(size, tuple(table[size])) for size in sizes])

    def __call__(self, free, size):
        check_asked(free, size)
        for thing, lockers in self.table:
            if thing == size:
                return first_free(free, lockers)
        return None

    def __eq__(self, other):
        return isinstance(other, Order) and self.table == other.table

    def __str__(self):
        return f"order {table_text(self.table)}"


class By(Fitting):
    """What a function tells."""

    def __init__(self, work):
        if work is None or isinstance(work, (bool, int, str, tuple, list, dict)):
            raise BadRule("work")
        self.work = work

    def __call__(self, free, size):
        check_asked(free, size)
        try:
            locker = self.work(free, size)
        except StayError as why:
            raise BadRule("work") from why
        if locker is None:
            return None
        if not is_within(locker, size, MOST_SIZE) or locker not in free:
            raise BadRule("locker")
        return locker

    def __eq__(self, other):
        return isinstance(other, By) and self.work == other.work

    def __str__(self):
        return "by"


class Joined(Fitting):
    """What one fitting tells or, where it tells None, what another one tells."""

    def __init__(self, one, other, deep):
        self.one = one
        self.other = other
        # How many joined ones stand within one another, this one among them.
        self.deep = deep
        self.wordless = has_no_text(one) or has_no_text(other)

    def __call__(self, free, size):
        locker = self.one(free, size)
        if locker is not None:
            return locker
        return self.other(free, size)

    def __eq__(self, other):
        return isinstance(other, Joined) and joined_parts(self) == joined_parts(other)

    def __str__(self):
        return f"( {self.one} | {self.other} )"


def joined_parts(joined):
    """What makes joined fittings equal."""
    return joined.one, joined.other


def deep_of(fitting):
    """How many joined fittings stand within one another."""
    return fitting.deep if isinstance(fitting, Joined) else 0


def has_no_text(fitting):
    """Whether a fitting is a By, or has one in it: what a function tells cannot be written."""
    return fitting.wordless if isinstance(fitting, Joined) else isinstance(fitting, By)


def are_lockers(size, lockers):
    """Whether any values are the size of a thing and a list or tuple of sizes of lockers, none below it."""
    if not is_within(size, 1, MOST_SIZE) or not is_sequence(lockers):
        return False
    return all([is_within(locker, size, MOST_SIZE) for locker in lockers])


def first_free(free, lockers):
    """The first of the sizes of which a locker is free; None without one."""
    for locker in lockers:
        if locker in free:
            return locker
    return None


def table_text(table):
    """The table of an Order as a text tells it."""
    if not table:
        return "-"
    return " , ".join([f"{size} : {lockers_text(lockers)}" for size, lockers in table])


def lockers_text(lockers):
    """The sizes of lockers as a text tells them."""
    if not lockers:
        return "-"
    return " ".join([str(locker) for locker in lockers])


def fitting_at(words, at, within):
    """The fitting that stands from an index on, within so many open `(`; the index behind it."""
    word = word_at(words, at)
    if word == "least":
        return Least(), at + 1
    if word == "greatest":
        return Greatest(), at + 1
    if word == "order":
        table, behind = table_at(words, at + 1)
        return Order(table), behind
    if word != "(" or within == MOST_DEEP:
        raise BadText(0, at)
    one, at = fitting_at(words, at + 1, within + 1)
    stand_at(words, at, "|")
    other, at = fitting_at(words, at + 1, within + 1)
    stand_at(words, at, ")")
    return one | other, at + 1


def table_at(words, at):
    """The table of an Order that stands from an index on; the index behind it."""
    if word_at(words, at) == "-":
        return {}, at + 1
    table = {}
    last = 0
    while True:
        size = number_at(words, at, last + 1, MOST_SIZE)
        stand_at(words, at + 1, ":")
        lockers, at = lockers_at(words, at + 2, size)
        table[size] = lockers
        if word_at(words, at) != ",":
            return table, at
        last = size
        at += 1


def lockers_at(words, at, size):
    """The sizes of lockers, or the `-`, that stand from an index on; the index behind them."""
    if word_at(words, at) == "-":
        return [], at + 1
    lockers = [number_at(words, at, size, MOST_SIZE)]
    at += 1
    while number_of(word_at(words, at), size, MOST_SIZE) is not None:
        lockers.append(number_at(words, at, size, MOST_SIZE))
        at += 1
    return lockers, at
