"""Looks at told fills, bars and sales that are open or closed, without a search."""

from stayhouse.books import check_book, is_let_by, row_of
from stayhouse.calendars import check_calendar, free_at
from stayhouse.checks import is_integer
from stayhouse.counts import counts_in
from stayhouse.door import Closed, Door
from stayhouse.errors import BadHouse
from stayhouse.fills import Bar, Fill
from stayhouse.ledgers import breaks_year, check_wanted, first_broken, first_full
from stayhouse.stays import Stay, is_inside


class Nights:
    """The days of a calendar, and how many rooms are free on each of its nights."""

    def __init__(self, first, free):
        self.first = first
        self.free = free


def nights_of(calendar):
    """The Nights of a calendar."""
    return Nights(calendar.first, list(calendar.free))


def nights_behind(calendar, stay):
    """The Nights of a calendar with one more sale of a stay within its days."""
    nights = [free_at(calendar, day) - (1 if day in stay else 0) for day in range(calendar.first, calendar.after)]
    return Nights(calendar.first, nights)


def shows_fill(calendar, book, value):
    """Whether any value is a right Fill or a right Bar."""
    check_calendar(calendar)
    check_book(book)
    nights = nights_of(calendar)
    return is_right_fill(nights, book, value) or is_right_bar(nights, book, value)


def is_part(nights, book, part):
    """Whether any value is a pair of a let stay within the days and a number from 1 on."""
    if not isinstance(part, tuple) or len(part) != 2:
        return False
    stay, number = part
    if not isinstance(stay, Stay) or not is_integer(number) or number < 1:
        return False
    return is_let_by(book, stay) and is_inside(stay, nights.first, nights.first + len(nights.free))


def is_right_fill(nights, book, value):
    """Whether any value is a Fill of unlike stays that lie just over the free rooms of each night."""
    if not isinstance(value, Fill) or not isinstance(value.parts, tuple):
        return False
    if not all([is_part(nights, book, part) for part in value.parts]):
        return False
    told = {(stay.first, stay.after): True for stay, _ in value.parts}
    if len(told) < len(value.parts):
        return False
    left = list(nights.free)
    for stay, number in value.parts:
        for day in range(stay.first, stay.after):
            left[day - nights.first] -= number
    return all([more == 0 for more in left])


def is_right_bar(nights, book, value):
    """Whether any value is a Bar: closed days whose supplies together are above 0."""
    if not isinstance(value, Bar) or not isinstance(value.days, tuple):
        return False
    last = nights.first + len(nights.free)
    days = value.days
    if not all([is_integer(day) and nights.first <= day <= last for day in days]):
        return False
    if not all([days[at] < days[at + 1] for at in range(len(days) - 1)]):
        return False
    told = {day: True for day in days}
    for day in days:
        if not all([day + more > last or day + more in told for more in row_of(book, day)]):
            return False
    # The free rooms of the night that begins on a day, less those of the night ahead.
    free = [0] + nights.free + [0]
    return sum([free[day - nights.first + 1] - free[day - nights.first] for day in days]) > 0


def check_door(door, wish, stay):
    """Raises unless any values are a Door, the name of a wish and a Stay; also if there are too many sales already."""
    if not isinstance(door, Door):
        raise BadHouse("door")
    check_wanted(door.keeper.affairs.ledger, wish, stay)


def shows_closed(door, wish, stay, value):
    """Whether any value is a Closed whose word holds, with its thing."""
    check_door(door, wish, stay)
    ledger = door.keeper.affairs.ledger
    if not isinstance(value, Closed) or not isinstance(value.word, str):
        return False
    if not is_inside(stay, door.first, door.after):
        return value.word == "outside" and value.thing is None
    if value.word == "let":
        return value.thing is None and not is_let_by(door.book, stay)
    night = first_full(ledger.calendar, stay)
    if night is not None:
        return value.word == "full" and is_night(value.thing, night)
    return shows_word(ledger, wish, stay, value)


def is_night(value, night):
    """Whether any value is a night; None is none."""
    return night is not None and is_integer(value) and value == night


def shows_word(ledger, wish, stay, paper):
    """Whether the word of a Closed holds of a stay within the days on whose nights rooms are free."""
    if paper.word == "dead":
        return is_right_bar(nights_behind(ledger.calendar, stay), ledger.book, paper.thing)
    if paper.word == "promise":
        return is_night(paper.thing, first_broken(ledger, wish, stay))
    if paper.word == "year":
        return paper.thing is None and breaks_year(ledger.promise, ledger.calendar.sold() + counts_in({wish: 1}))
    return False


def shows_open(door, wish, stay, value):
    """Whether no word holds, and any value is a right Fill of the calendar with one more sale."""
    check_door(door, wish, stay)
    ledger = door.keeper.affairs.ledger
    if not is_inside(stay, door.first, door.after) or not is_let_by(door.book, stay):
        return False
    if first_full(ledger.calendar, stay) is not None or first_broken(ledger, wish, stay) is not None:
        return False
    if breaks_year(ledger.promise, ledger.calendar.sold() + counts_in({wish: 1})):
        return False
    return is_right_fill(nights_behind(ledger.calendar, stay), ledger.book, value)
