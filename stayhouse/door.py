"""Doors: they sell nights ahead, as long as free nights can still be sold and the promise is kept."""

from stayhouse.books import check_book, is_let_by
from stayhouse.calendars import Calendar, Sale, check_calendar
from stayhouse.checks import is_name
from stayhouse.errors import BadName, BadRow, Barred, Nothing
from stayhouse.fills import Bar
from stayhouse.keepers import Keeper
from stayhouse.ledgers import check_sales_left, check_wanted, ledger_of, offers_of, why_not
from stayhouse.papers import Denial, Paper, lasting
from stayhouse.promises import check_promise
from stayhouse.stays import check_stay


class Open(Paper):
    """Nothing bars a sale."""


class Closed(Denial):
    """A word bars a sale; with it the night, or the Bar, that shows it."""

    def __init__(self, word, thing):
        self.word = lasting(word)
        self.thing = lasting(thing)

    def kept(self):
        """What the paper keeps."""
        return self.word, self.thing


class Till:
    """What a door sold, and what it can take back; it changes."""

    def __init__(self, ledger):
        self.ledger = ledger
        self.names = list(ledger.calendar.names)
        # The pairs of the word of a deed and the ledger ahead of it.
        self.past = []

    def copied(self):
        """A Till that is the same, and changes on its own."""
        till = Till(self.ledger)
        till.past = list(self.past)
        return till

    def turn_to(self, ledger):
        """Another ledger takes the place of the one that is there."""
        self.ledger = ledger
        self.names.clear()
        self.names.extend(ledger.calendar.names)

    def carry_out(self, word, ledger):
        """Does a deed, which can be taken back."""
        self.past.append((word, self.ledger))
        self.turn_to(ledger)

    def take_back(self):
        """Takes the last deed back; returns its word."""
        word, ledger = self.past.pop()
        self.turn_to(ledger)
        return word


class Door:
    """A door that sells nights ahead; it changes."""

    def __init__(self, book, promise, rooms, first, after):
        check_book(book)
        check_promise(promise)
        ledger = ledger_of(book, promise, Calendar(rooms, first, after))
        self.book = book
        self.promise = promise
        self.first = first
        self.after = after
        self.keeper = Keeper(self, Till(ledger))

    @staticmethod
    def of(book, promise, calendar):
        """The Door with the sales of a calendar, and nothing to take back."""
        check_book(book)
        check_promise(promise)
        check_calendar(calendar)
        if not all([is_let_by(book, sale.stay) for sale in calendar.sales]):
            raise Barred("let")
        return door_with(ledger_of(book, promise, calendar))

    def why(self, wish, stay):
        """An Open if a sale to one more guest is not barred, otherwise a Closed with the first word that bars it."""
        ledger = self.keeper.affairs.ledger
        check_wanted(ledger, wish, stay)
        told = why_not(ledger, wish, stay)
        if told is None:
            return Open()
        word, thing = told
        return Closed(word, Bar(thing) if word == "dead" else thing)

    def sell(self, guest, wish, stay):
        """Sells nights to a guest."""
        if not is_name(guest):
            raise BadName(guest)
        if not is_name(wish):
            raise BadName(wish)
        check_stay(stay)
        till = self.keeper.affairs
        if guest in self:
            raise Barred("name")
        till.carry_out("sell", ledger_behind(till.ledger, guest, wish, stay))

    def cancel(self, guest):
        """Takes the sale of a guest out and returns it."""
        sale = self[guest]
        till = self.keeper.affairs
        till.carry_out("cancel", till.ledger.without_sale(guest))
        return sale

    def offers(self, wish):
        """All stays that would be sold to one more guest, by first day, then by nights."""
        if not is_name(wish):
            raise BadName(wish)
        ledger = self.keeper.affairs.ledger
        check_sales_left(ledger)
        for stay in offers_of(ledger, wish):
            yield stay

    def __getitem__(self, guest):
        return self.keeper.affairs.ledger.calendar[guest]

    def __setitem__(self, guest, told):
        if not is_name(guest):
            raise BadName(guest)
        if not isinstance(told, tuple) or len(told) != 2:
            raise BadRow(None)
        wish, stay = told
        self.sell(guest, wish, stay)

    def __contains__(self, value):
        return value in self.keeper.affairs.ledger.calendar

    def __len__(self):
        return len(self.keeper.names)

    def __iter__(self):
        return iter(self.keeper.names)

    def calendar_now(self):
        """The Calendar."""
        return self.keeper.affairs.ledger.calendar

    def undo(self):
        """Takes back the last deed that is not taken back; returns its word."""
        till = self.keeper.affairs
        if not till.past:
            raise Nothing()
        return till.take_back()

    @property
    def deeds(self):
        """How many deeds can be taken back."""
        return len(self.keeper.affairs.past)

    def trial(self):
        """A block behind which the door is as it was when the block began."""
        return self.keeper

    def tried(self, work):
        """What work returns, called with the door in the block of a trial."""
        with self.trial() as same:
            return work(same)

    def twin(self):
        """An equal door with nothing to take back."""
        return door_with(self.keeper.affairs.ledger)

    def __eq__(self, other):
        return isinstance(other, Door) and door_parts(self) == door_parts(other)


def door_parts(door):
    """What makes doors equal."""
    return door.book, door.promise, door.keeper.affairs.ledger.calendar


def door_with(ledger):
    """The Door that sold what a ledger tells, with nothing to take back."""
    calendar = ledger.calendar
    door = Door(ledger.book, ledger.promise, calendar.rooms, calendar.first, calendar.after)
    door.keeper = Keeper(door, Till(ledger))
    return door


def ledger_behind(ledger, guest, wish, stay):
    """The ledger behind a sale; raises if there are too many, or if it is barred."""
    check_sales_left(ledger)
    told = why_not(ledger, wish, stay)
    if told is not None:
        raise Barred(told[0])
    return ledger.with_sale(Sale(guest, wish, stay))
