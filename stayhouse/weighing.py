"""Weighing guests: what bounds leave, and all numbers of guests that keep them.

The *column* of a name is the tuple of the pairs (index of a limit, weight above 0).
The *rests* are what is left of the bounds of all limits, in the order of the limits.
"""

from stayhouse.counts import counts_in
from stayhouse.errors import TooMany

MOST_TALLIES = 5000


def column_of(name, limits):
    """The column of a name."""
    return tuple([(at, limit.weights[name]) for at, limit in enumerate(limits) if name in limit.weights])


def bounds_of(limits):
    """The rests ahead of any guest."""
    return tuple([limit.bound for limit in limits])


def fits(column, rests):
    """Whether the rests let one more guest."""
    for at, weight in column:
        if weight > rests[at]:
            return False
    return True


def rests_behind(column, rests, many):
    """The rests behind so many more guests; behind fewer, if many is below 0."""
    left = list(rests)
    for at, weight in column:
        left[at] = left[at] - weight * many
    return tuple(left)


def is_full(columns, rests):
    """Whether the rests let no guest of any column."""
    for column in columns:
        if fits(column, rests):
            return False
    return True


def last_place(columns, numbers, rests):
    """The last place that can be raised when all places behind it are 0, and the rests then; -1 if there is none."""
    for at in range(len(columns) - 1, -1, -1):
        if fits(columns[at], rests):
            return at, rests
        if numbers[at] > 0:
            rests = rests_behind(columns[at], rests, -numbers[at])
    return -1, rests


def tally_behind(columns, numbers, rests):
    """The next tuple of numbers that keeps the bounds, None behind the last one, and the rests behind it."""
    at, rests = last_place(columns, numbers, rests)
    if at < 0:
        return None, rests
    further = numbers[:at] + (numbers[at] + 1,) + (0,) * (len(numbers) - at - 1)
    return further, rests_behind(columns[at], rests, 1)


def tallies(columns, bounds, what):
    """All tuples of numbers that keep the bounds, ascending, each with the rests behind it."""
    numbers = (0,) * len(columns)
    rests = bounds
    many = 0
    while numbers is not None:
        many += 1
        if many > MOST_TALLIES:
            raise TooMany(what, MOST_TALLIES)
        yield numbers, rests
        numbers, rests = tally_behind(columns, numbers, rests)


def counts_from(names, numbers):
    """The Counts of names and their numbers."""
    return counts_in({name: number for name, number in zip(names, numbers) if number > 0})


def full_tallies(columns, bounds, what):
    """Those of the tallies behind which nobody can come, ascending."""
    # Orders of promises ask for them, and what an operator runs goes over no generator: so the loop stands here, too.
    found = []
    numbers = (0,) * len(columns)
    rests = bounds
    many = 0
    while numbers is not None:
        many += 1
        if many > MOST_TALLIES:
            raise TooMany(what, MOST_TALLIES)
        if is_full(columns, rests):
            found.append(numbers)
        numbers, rests = tally_behind(columns, numbers, rests)
    return found
