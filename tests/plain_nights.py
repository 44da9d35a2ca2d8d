"""Plain looks at nights: all ways to fill few nights, all closed sets of few days, what bars a sale."""

from itertools import product

from stayhouse.books import Book
from stayhouse.calendars import Calendar, Sale
from stayhouse.limits import Limit, YearLimit
from stayhouse.promises import Promise
from stayhouse.stays import Stay

NAMES = [one + other for one in "abcdefghijklmnop" for other in "abcdefghijklmnop"]


def some_book(rng):
    """A small book, mostly one that lets a little only."""
    rows = [rng.sample(range(1, 5), rng.choice([0, 1, 1, 2, 2, 3])) for _ in range(rng.choice([1, 1, 2, 3]))]
    return Book(*rows)


def days_of(calendar):
    """The days of a calendar, the day after among them."""
    return range(calendar.first, calendar.after + 1)


def let_within(calendar, book):
    """All let stays within the days, asked stay by stay."""
    return [Stay(first, after) for first in days_of(calendar) for after in days_of(calendar) if first < after and book(Stay(first, after))]


def free_rooms(calendar, day):
    """The free rooms of a night, counted; 0 outside of the days."""
    if not calendar.first <= day < calendar.after:
        return 0
    return calendar.rooms - sum(sale.stay.first <= day < sale.stay.after for sale in calendar.sales)


def can_fill(calendar, book):
    """Whether the free nights can be filled with let stays, tried night by night; for few rooms."""
    states = {()}
    for day in range(calendar.first, calendar.after):
        free = free_rooms(calendar, day)
        lengths = [stay.nights for stay in let_within(calendar, book) if stay.first == day]
        following = set()
        # A state tells how many nights each stay that lies there has still to go.
        for state in states:
            if len(state) <= free:
                for more in product(lengths, repeat=free - len(state)):
                    following.add(tuple(sorted(nights - 1 for nights in state + more if nights > 1)))
        states = following
    return () in states


def is_bar(calendar, book, days):
    """Whether days are closed, and have a supply above 0 together."""
    for stay in let_within(calendar, book):
        if stay.first in days and stay.after not in days:
            return False
    return sum(free_rooms(calendar, day) - free_rooms(calendar, day - 1) for day in days) > 0


def has_bar(calendar, book):
    """Whether some set of the days is a bar; all of them are looked at."""
    days = list(days_of(calendar))
    for chosen in product([False, True], repeat=len(days)):
        if is_bar(calendar, book, [day for day, is_in in zip(days, chosen) if is_in]):
            return True
    return False


def is_fill(calendar, book, parts):
    """Whether pairs of let stays and numbers lie just over the free nights."""
    if type(parts) is not tuple:
        return False
    let = let_within(calendar, book)
    met = []
    for part in parts:
        if type(part) is not tuple or len(part) != 2 or type(part[0]) is not Stay or type(part[1]) is not int:
            return False
        if part[0] not in let or part[0] in met or part[1] < 1:
            return False
        met.append(part[0])
    return all(sum(number for stay, number in parts if day in stay) == free_rooms(calendar, day) for day in range(calendar.first, calendar.after))


def is_told_bar(calendar, book, days):
    """Whether any value is right as the days of a Bar."""
    if type(days) is not tuple or not all(type(day) is int and day in days_of(calendar) for day in days):
        return False
    return list(days) == sorted(set(days)) and is_bar(calendar, book, days)


def some_calendar(rng, book, let=True, nights=7):
    """A small calendar; if let is set, all its stays are let."""
    first = rng.choice([0, 0, -3, 10 ** 39])
    calendar = Calendar(rng.choice([0, 1, 2, 2, 3, 4]), first, first + rng.randint(1, nights))
    for name in NAMES[:rng.choice([0, 1, 1, 2, 3, 5])]:
        stays = let_within(calendar, book)
        if not let and rng.random() < 0.5:
            begin = rng.randint(calendar.first, calendar.after - 1)
            stays = [Stay(begin, rng.randint(begin + 1, calendar.after))]
        stays = [stay for stay in stays if all(free_rooms(calendar, day) > 0 for day in range(stay.first, stay.after))]
        if stays:
            calendar = calendar + Sale(name, rng.choice(["adult", "child"]), rng.choice(stays))
    return calendar


def some_promise(rng):
    """A promise for guests of two wishes, that often breaks."""
    limits = [Limit(rng.randint(1, 4), adult=1, child=rng.choice([1, 2]))]
    if rng.random() < 0.5:
        limits.append(Limit(rng.randint(0, 2), child=1))
    if rng.random() < 0.6:
        limits.append(YearLimit(rng.randint(0, 4), adult=rng.choice([0, 1]), child=1))
    return Promise(*limits)


def is_kept(promise, wishes, year):
    """Whether guests of these wishes keep the limits at once, or in a year; an unknown wish keeps none."""
    if not all(name in promise.wishes for name in wishes):
        return False
    limits = [limit for limit in promise.limits if limit.YEARLY == year]
    return all(sum(limit.weights[name] for name in wishes) <= limit.bound for limit in limits)


def broken_night(promise, calendar, wish, stay):
    """The first night on which one more guest breaks a limit at once; None without one."""
    for day in range(stay.first, stay.after):
        if not is_kept(promise, [sale.wish for sale in calendar.sales if day in sale.stay] + [wish], False):
            return day
    return None


def full_night(calendar, stay):
    """The first night without a free room; None without one."""
    return next((day for day in range(stay.first, stay.after) if free_rooms(calendar, day) == 0), None)


def barred_by(book, promise, calendar, wish, stay):
    """The pair of the first word that bars a sale, and its thing, None for a bar; None if nothing does."""
    if stay.first < calendar.first or stay.after > calendar.after:
        return "outside", None
    if not book(stay):
        return "let", None
    if full_night(calendar, stay) is not None:
        return "full", full_night(calendar, stay)
    if not can_fill(calendar + Sale("zzz", wish, stay), book):
        return "dead", None
    if broken_night(promise, calendar, wish, stay) is not None:
        return "promise", broken_night(promise, calendar, wish, stay)
    if not is_kept(promise, [sale.wish for sale in calendar.sales] + [wish], True):
        return "year", None
    return None
