"""Calendars: rooms, days, and the nights that are sold."""

from stayhouse.books import MOST_DAYS
from stayhouse.checks import GREATEST, is_integer, is_name, is_within
from stayhouse.errors import BadCalendar, BadName, BadNumber, NoGuest, TooMany
from stayhouse.rows import counts_of, row_in
from stayhouse.stays import Stay, check_stay, days_at, is_inside
from stayhouse.words import name_at, number_at, stand_at, words_of

MOST_SALES = 200


class Sale:
    """A guest's name, the name of his wish, and the stay that he was sold."""

    def __init__(self, guest, wish, stay):
        if not is_name(guest):
            raise BadName(guest)
        if not is_name(wish):
            raise BadName(wish)
        check_stay(stay)
        self.guest = guest
        self.wish = wish
        self.stay = stay

    def __eq__(self, other):
        return isinstance(other, Sale) and sale_parts(self) == sale_parts(other)

    def __str__(self):
        return f"{self.guest} {self.wish} {self.stay}"


class Calendar:
    """Rooms that are alike, days, and the sales of their nights; it never changes."""

    def __init__(self, rooms, first, after, *sales):
        check_days(rooms, first, after)
        check_sales(sales)
        names = tuple([sale.guest for sale in sales])
        if len(set(names)) < len(names):
            raise BadCalendar("twice")
        if not all([is_inside(sale.stay, first, after) for sale in sales]):
            raise BadCalendar("outside")
        free = [rooms - many for many in sold_by_night(first, after, sales)]
        if not all([many >= 0 for many in free]):
            raise BadCalendar("full")
        self.rooms = rooms
        self.first = first
        self.after = after
        self.sales = sales
        self.names = names
        # The free rooms of each night, the first one's ahead.
        self.free = tuple(free)

    @classmethod
    def read(cls, text):
        """The Calendar that a text tells."""
        words = words_of(text)
        stand_at(words, 0, "rooms")
        rooms = number_at(words, 1, 0, GREATEST)
        stand_at(words, 2, "days")
        first, after = days_at(words, 3)
        told = [sale_at(words, at) for at in range(6, len(words), 6)]
        sales = [Sale(guest, wish, Stay(*days)) for guest, wish, days in told]
        return cls(rooms, first, after, *sales)

    def __getitem__(self, guest):
        return self.sales[place_of(self, guest)]

    def __len__(self):
        return len(self.names)

    def __iter__(self):
        return iter(self.names)

    def __contains__(self, value):
        return isinstance(value, str) and value in self.names

    def __add__(self, sale):
        if not isinstance(sale, Sale):
            raise BadCalendar("sale")
        return Calendar(self.rooms, self.first, self.after, *self.sales, sale)

    def __sub__(self, guest):
        at = place_of(self, guest)
        sales = self.sales[:at] + self.sales[at + 1:]
        return Calendar(self.rooms, self.first, self.after, *sales)

    def free_on(self, day):
        """The free rooms of the night that begins on a day."""
        if not is_integer(day):
            raise BadNumber(day)
        return free_at(self, day)

    def supply(self, day):
        """The free rooms of the night that begins on a day less those of the night ahead."""
        if not is_integer(day):
            raise BadNumber(day)
        return free_at(self, day) - free_at(self, day - 1)

    def standing_on(self, day):
        """The Counts of the wishes that are sold over a night."""
        if not is_integer(day):
            raise BadNumber(day)
        return counts_of([sale.wish for sale in self.sales if day in sale.stay])

    def sold(self):
        """The Counts of the wishes of all sales."""
        return counts_of([sale.wish for sale in self.sales])

    def as_row(self):
        """The Row of the calendar: day by day those go whose stay ends, then those come whose stay begins."""
        events = []
        came = []
        for day in range(self.first, self.after + 1):
            events.extend([number for number, sale in enumerate(came) if sale.stay.after == day])
            coming = [sale for sale in self.sales if sale.stay.first == day]
            events.extend([sale.wish for sale in coming])
            came.extend(coming)
        return row_in(events)

    def __eq__(self, other):
        return isinstance(other, Calendar) and calendar_parts(self) == calendar_parts(other)

    def __str__(self):
        return f"rooms {self.rooms} days {self.first} to {self.after}{sales_text(self)}"


def sale_parts(sale):
    """All attributes of a sale."""
    return sale.guest, sale.wish, sale.stay


def calendar_parts(calendar):
    """What makes calendars equal."""
    return calendar.rooms, calendar.first, calendar.after, calendar.sales


def sales_text(calendar):
    """What the text of a calendar tells of its sales."""
    return "".join([f" ; {sale}" for sale in calendar.sales])


def check_days(rooms, first, after):
    """Raises unless any values are the rooms and the days of a calendar."""
    if not is_within(rooms, 0, GREATEST):
        raise BadCalendar("rooms")
    if not is_integer(first):
        raise BadCalendar("first")
    if not is_integer(after) or after <= first:
        raise BadCalendar("after")
    if after - first > MOST_DAYS:
        raise TooMany("days", MOST_DAYS)


def check_sales(sales):
    """Raises unless a tuple of any values has Sales alone, and not too many."""
    for at, sale in enumerate(sales):
        if not isinstance(sale, Sale):
            raise BadCalendar(at)
    if len(sales) > MOST_SALES:
        raise TooMany("sales", MOST_SALES)


def sold_by_night(first, after, sales):
    """The list of how many rooms are sold for each night."""
    more = [0 for _ in range(after - first + 1)]
    for sale in sales:
        begin = sale.stay.first - first
        end = sale.stay.after - first
        more[begin] = more[begin] + 1
        more[end] = more[end] - 1
    sold = []
    many = 0
    for at in range(after - first):
        many = many + more[at]
        sold.append(many)
    return sold


def place_of(calendar, guest):
    """The index of the sale of a guest."""
    for at, name in enumerate(calendar.names):
        if name == guest:
            return at
    raise NoGuest(guest)


def free_at(calendar, day):
    """The free rooms of the night that begins on a day, 0 outside of the days."""
    if not calendar.first <= day < calendar.after:
        return 0
    return calendar.free[day - calendar.first]


def check_calendar(calendar):
    """Raises unless any value is a Calendar."""
    if not isinstance(calendar, Calendar):
        raise BadCalendar("calendar")


def sale_at(words, at):
    """The guest, the wish and the two days of the sale behind the `;` that stands at an index."""
    stand_at(words, at, ";")
    return name_at(words, at + 1), name_at(words, at + 2), days_at(words, at + 3)
