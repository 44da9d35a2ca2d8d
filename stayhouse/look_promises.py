"""Looks at told tops of a promise, without a search for them."""

from stayhouse.counts import Counts
from stayhouse.errors import TooMany
from stayhouse.promises import check_promise, standing_frame, year_frame
from stayhouse.weighing import MOST_TALLIES, fits, rests_behind


def shows_tops(promise, tops, year_tops):
    """Whether any values are what `peaks` and `year_peaks` of a promise tell."""
    check_promise(promise)
    columns, bounds = standing_frame(promise)
    here = are_tops(tops, promise.comers, columns, bounds, "standings")
    # Asked for also when the tops are wrong already: there may be too many years.
    columns, bounds = year_frame(promise)
    there = are_tops(year_tops, promise.counted_comers, columns, bounds, "years")
    return here and there


def are_tops(tops, names, columns, bounds, what):
    """Whether any value is the tuple of the Counts of all greatest numbers that keep the bounds."""
    told = numbers_of(tops, names)
    # Nothing told is wrong, too: there is always a greatest one.
    if not told or not is_ascending(told) or not all([is_kept(numbers, columns, bounds) for numbers in told]):
        return False
    if has_lesser(told):
        return False
    return is_whole(all_below(told, what), columns, bounds)


def numbers_of(tops, names):
    """The list of the numbers by these names of a tuple of Counts; an empty one for any value that is none."""
    if not isinstance(tops, tuple):
        return []
    told = []
    for top in tops:
        if not isinstance(top, Counts) or not all([name in names for name in top.names]):
            return []
        told.append(tuple([top[name] for name in names]))
    return told


def is_ascending(told):
    """Whether tuples of numbers ascend."""
    return all([told[at] < told[at + 1] for at in range(len(told) - 1)])


def rests_of(numbers, columns, bounds):
    """The rests behind so many guests of each column."""
    rests = bounds
    for column, number in zip(columns, numbers):
        if number > 0:
            rests = rests_behind(column, rests, number)
    return rests


def is_kept(numbers, columns, bounds):
    """Whether so many guests of each column keep the bounds."""
    return all([rest >= 0 for rest in rests_of(numbers, columns, bounds)])


def is_at_most(lesser, greater):
    """Whether each number is at most the one of the other tuple."""
    return all([one <= other for one, other in zip(lesser, greater)])


def marks_of(numbers):
    """An integer with a bit for each place that is not 0."""
    marks = 0
    for at, number in enumerate(numbers):
        if number > 0:
            marks = marks | (1 << at)
    return marks


def has_lesser(told):
    """Whether one of the ascending tuples of numbers is at most another one."""
    marks = [marks_of(numbers) for numbers in told]
    totals = [sum(numbers) for numbers in told]
    for at, numbers in enumerate(told):
        mark = marks[at]
        total = totals[at]
        # Only what comes behind, has more in all, and has a number wherever this one has one can be greater.
        behind = [k for k in range(at + 1, len(told)) if totals[k] > total and marks[k] & mark == mark]
        if any([is_at_most(numbers, told[k]) for k in behind]):
            return True
    return False


def all_below(told, what):
    """A dict with all tuples of numbers at most one of the told ones, these among them."""
    below = {numbers: True for numbers in told}
    waiting = list(told)
    while waiting:
        if len(below) > MOST_TALLIES:
            raise TooMany(what, MOST_TALLIES)
        numbers = waiting.pop()
        for lower in one_less(numbers):
            if lower not in below:
                below[lower] = True
                waiting.append(lower)
    return below


def one_less(numbers):
    """The list of the tuples with one guest less."""
    places = [at for at, number in enumerate(numbers) if number > 0]
    return [numbers[:at] + (numbers[at] - 1,) + numbers[at + 1:] for at in places]


def is_whole(below, columns, bounds):
    """Whether one guest more, wherever the bounds let him come, leads to what is below the tops."""
    for numbers in below:
        rests = rests_of(numbers, columns, bounds)
        for at, column in enumerate(columns):
            if fits(column, rests) and numbers[:at] + (numbers[at] + 1,) + numbers[at + 1:] not in below:
                return False
    return True
