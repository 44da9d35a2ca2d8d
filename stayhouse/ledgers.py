"""Ledgers: what is sold of a calendar, how its free nights can still be sold, and what a further sale would break."""

from stayhouse.books import is_let_by, row_of
from stayhouse.calendars import MOST_SALES, free_at
from stayhouse.checks import is_name
from stayhouse.counts import counts_in
from stayhouse.errors import BadName, Barred, TooMany
from stayhouse.fills import days_from
from stayhouse.flows import filled
from stayhouse.stays import Stay, check_stay, is_inside


class Ledger:
    """A calendar whose sales keep a promise, and a flow that fills its free nights by a book; it never changes."""

    def __init__(self, book, promise, calendar, flow):
        self.book = book
        self.promise = promise
        self.calendar = calendar
        self.flow = flow

    def with_sale(self, sale):
        """The Ledger with one more sale, which nothing bars."""
        calendar = self.calendar
        flow = self.flow.copied()
        # One room less is free from the first night on, one more from the day after: that one is led back.
        flow.lead(flow.way(sale.stay.after - calendar.first, 1 << (sale.stay.first - calendar.first)), 1)
        return Ledger(self.book, self.promise, calendar + sale, flow)

    def without_sale(self, guest):
        """The Ledger without the sale of a guest, whose stay can be sold again."""
        calendar = self.calendar
        stay = calendar[guest].stay
        flow = self.flow.copied()
        flow.lay(stay.first - calendar.first, stay.after - calendar.first, 1)
        return Ledger(self.book, self.promise, calendar - guest, flow)


def ledger_of(book, promise, calendar):
    """The Ledger of a calendar all of whose sales are let; raises if it cannot be sold, or breaks the promise."""
    flow, bar = filled(calendar, book)
    if bar > 0:
        raise Barred("dead")
    for day in range(calendar.first, calendar.after):
        if breaks_at_once(promise, calendar.standing_on(day)):
            raise Barred("promise")
    if breaks_year(promise, calendar.sold()):
        raise Barred("year")
    return Ledger(book, promise, calendar, flow)


def is_known(promise, counts):
    """Whether a promise knows of all wishes that are counted."""
    return all([name in promise.wishes for name in counts.names])


def breaks_at_once(promise, standing):
    """Whether a standing breaks a limit at once, or has a wish of which the promise does not know."""
    if not is_known(promise, standing):
        return True
    return not all([limit.keeps(standing) for limit in promise.limits if not limit.YEARLY])


def breaks_year(promise, year):
    """Whether a year breaks a limit in a year, or has a wish of which the promise does not know."""
    if not is_known(promise, year):
        return True
    return not all([limit.keeps(year) for limit in promise.limits if limit.YEARLY])


def check_wanted(ledger, wish, stay):
    """Raises unless any values are the name of a wish and a Stay, or if there are too many sales for one more."""
    if not is_name(wish):
        raise BadName(wish)
    check_stay(stay)
    check_sales_left(ledger)


def check_sales_left(ledger):
    """Raises if there are too many sales for one more."""
    if len(ledger.calendar.sales) >= MOST_SALES:
        raise TooMany("sales", MOST_SALES)


def first_full(calendar, stay):
    """The first night of a stay on which no room is free; None without one."""
    for day in range(stay.first, stay.after):
        if free_at(calendar, day) == 0:
            return day
    return None


def first_broken(ledger, wish, stay):
    """The first night of a stay on which one more guest breaks a limit at once; None without one."""
    one = counts_in({wish: 1})
    for day in range(stay.first, stay.after):
        if breaks_at_once(ledger.promise, ledger.calendar.standing_on(day) + one):
            return day
    return None


def dead_days(ledger, stay):
    """The days of a bar of the calendar with one more sale of a stay whose nights are free; None if it is sellable."""
    first = ledger.calendar.first
    reached = ledger.flow.reached(stay.after - first)
    if (reached >> (stay.first - first)) & 1:
        return None
    return days_from(first, reached)


def why_not(ledger, wish, stay):
    """The pair of the first word that bars a sale to one more guest, and its thing; None if nothing bars it.

    The thing of the word `dead` is the tuple of the days of a bar.
    """
    calendar = ledger.calendar
    if not is_inside(stay, calendar.first, calendar.after):
        return "outside", None
    if not is_let_by(ledger.book, stay):
        return "let", None
    night = first_full(calendar, stay)
    if night is not None:
        return "full", night
    days = dead_days(ledger, stay)
    if days is not None:
        return "dead", days
    night = first_broken(ledger, wish, stay)
    if night is not None:
        return "promise", night
    if breaks_year(ledger.promise, calendar.sold() + counts_in({wish: 1})):
        return "year", None
    return None


def last_days(ledger, wish):
    """For each day of a calendar the last day after of a stay from it that has no night without a room or broken."""
    calendar = ledger.calendar
    one = counts_in({wish: 1})
    last = [calendar.after] * (calendar.after - calendar.first)
    end = calendar.after
    for at in range(len(last) - 1, -1, -1):
        day = calendar.first + at
        if free_at(calendar, day) == 0 or breaks_at_once(ledger.promise, calendar.standing_on(day) + one):
            end = day
        last[at] = end
    return last


def offers_of(ledger, wish):
    """The list of all stays that would be sold to one more guest, by first day, then by nights."""
    calendar = ledger.calendar
    if breaks_year(ledger.promise, calendar.sold() + counts_in({wish: 1})):
        return []
    reached = {}
    found = []
    for at, end in enumerate(last_days(ledger, wish)):
        for nights in row_of(ledger.book, calendar.first + at):
            behind = at + nights
            if calendar.first + behind <= end:
                if behind not in reached:
                    reached[behind] = ledger.flow.reached(behind)
                if (reached[behind] >> at) & 1:
                    found.append(Stay(calendar.first + at, calendar.first + behind))
    return found
