"""Inns: houses with a calendar, which sell nights ahead."""

from stayhouse.checks import is_name
from stayhouse.door import Door, door_with, ledger_behind
from stayhouse.errors import BadName, BadRow, Barred, NoWish, Nothing
from stayhouse.house import House, house_again
from stayhouse.keepers import Keeper
from stayhouse.rows import row_in
from stayhouse.stays import check_stay


class Past:
    """A deed to be taken back: its word, the ledger and the day ahead of it, how many deeds of the house it is."""

    def __init__(self, word, ledger, day, many):
        self.word = word
        self.ledger = ledger
        self.day = day
        self.many = many


class Business:
    """How things are in an inn, and what it can take back; they change."""

    def __init__(self, house, ledger, day):
        self.house = house
        self.ledger = ledger
        self.day = day
        self.names = list(ledger.calendar.names)
        self.past = []

    def copied(self):
        """A Business that is the same, and changes on its own."""
        business = Business(house_again(self.house), self.ledger, self.day)
        business.past = list(self.past)
        return business

    def turn_to(self, ledger):
        """Another ledger takes the place of the one that is there."""
        self.ledger = ledger
        self.names.clear()
        self.names.extend(ledger.calendar.names)

    def write_down(self, word, many):
        """A deed that is carried out next can be taken back; so many deeds of the house belong to it."""
        self.past.append(Past(word, self.ledger, self.day, many))

    def take_back(self):
        """Takes the last deed back; returns its word."""
        last = self.past.pop()
        self.turn_to(last.ledger)
        self.day = last.day
        for _ in range(last.many):
            self.house.undo()
        return last.word


class Inn:
    """A house that sells nights ahead; it changes."""

    def __init__(self, plan, stock, book, rooms, first, after):
        house = House(plan, stock)
        door = Door(book, plan.promise, rooms, first, after)
        self.keeper = Keeper(self, Business(house, door.keeper.affairs.ledger, first))

    def sell(self, guest, wish, stay):
        """Sells nights to a guest."""
        business = self.keeper.affairs
        if not is_name(guest):
            raise BadName(guest)
        if wish not in business.house.plan:
            raise NoWish(wish)
        check_stay(stay)
        if guest in self:
            raise Barred("name")
        if stay.first < business.day:
            raise Barred("past")
        ledger = ledger_behind(business.ledger, guest, wish, stay)
        business.write_down("sell", 0)
        business.turn_to(ledger)

    def cancel(self, guest):
        """Takes the sale of a guest out and returns it."""
        business = self.keeper.affairs
        sale = self[guest]
        if sale.stay.first < business.day:
            raise Barred("past")
        if guest in comers_of(business):
            raise Barred("there")
        business.write_down("cancel", 0)
        business.turn_to(business.ledger.without_sale(guest))
        return sale

    def come(self, guest):
        """A guest who was sold tonight comes; returns what he gets."""
        business = self.keeper.affairs
        sale = self[guest]
        if sale.stay.first != business.day:
            raise Barred("day")
        if guest in comers_of(business):
            raise Barred("there")
        given = business.house.come(guest, sale.wish)
        business.write_down("come", 1)
        return given

    def go(self, guest):
        """A guest goes; returns what he held."""
        business = self.keeper.affairs
        given = business.house.go(guest)
        business.write_down("go", 1)
        return given

    def dawn(self):
        """The next day comes; returns the names of those who go then."""
        business = self.keeper.affairs
        calendar = business.ledger.calendar
        if business.day == calendar.after - 1:
            raise Barred("end")
        there = [guest for guest in comers_of(business) if guest in business.house]
        leaving = [guest for guest in there if calendar[guest].stay.after == business.day + 1]
        business.write_down("dawn", len(leaving))
        for guest in leaving:
            business.house.go(guest)
        business.day += 1
        return tuple(leaving)

    def __getitem__(self, guest):
        return self.keeper.affairs.ledger.calendar[guest]

    def __setitem__(self, guest, told):
        if not is_name(guest):
            raise BadName(guest)
        if not isinstance(told, tuple) or len(told) != 2:
            raise BadRow(None)
        wish, stay = told
        self.sell(guest, wish, stay)

    def __contains__(self, value):
        return value in self.keeper.affairs.ledger.calendar

    def __len__(self):
        return len(self.keeper.names)

    def __iter__(self):
        return iter(self.keeper.names)

    @property
    def today(self):
        """The day that it is."""
        return self.keeper.affairs.day

    @property
    def present(self):
        """The names of those who are there."""
        return tuple(self.keeper.affairs.house.keeper.names)

    @property
    def due(self):
        """The names of those who begin today and have not come, in the order of their sales."""
        business = self.keeper.affairs
        came = comers_of(business)
        beginning = [sale.guest for sale in business.ledger.calendar.sales if sale.stay.first == business.day]
        return tuple([guest for guest in beginning if guest not in came])

    @property
    def deeds(self):
        """How many deeds can be taken back."""
        return len(self.keeper.affairs.past)

    def row_now(self):
        """The Row of what came about."""
        numbers = {}
        events = []
        for deed in self.keeper.affairs.house.history:
            if len(deed) == 3:
                numbers[deed[1]] = len(numbers)
                events.append(deed[2])
            else:
                events.append(numbers[deed[1]])
        return row_in(events)

    def house_now(self):
        """The House, which goes its own way."""
        return house_again(self.keeper.affairs.house)

    def calendar_now(self):
        """The Calendar."""
        return self.keeper.affairs.ledger.calendar

    def door_now(self):
        """A twin of the door."""
        return door_with(self.keeper.affairs.ledger)

    def undo(self):
        """Takes back the last deed that is not taken back; returns its word."""
        business = self.keeper.affairs
        if not business.past:
            raise Nothing()
        return business.take_back()

    def trial(self):
        """A block behind which the inn is as it was when the block began."""
        return self.keeper

    def tried(self, work):
        """What work returns, called with the inn in the block of a trial."""
        with self.trial() as same:
            return work(same)

    def twin(self):
        """An equal inn with nothing to take back."""
        twin = inn_again(self)
        business = twin.keeper.affairs
        business.past = []
        return twin

    def __eq__(self, other):
        return isinstance(other, Inn) and inn_parts(self) == inn_parts(other)


def inn_again(inn):
    """An inn that is the same, also in what can be taken back, and goes its own way."""
    business = inn.keeper.affairs.copied()
    house = business.house
    calendar = business.ledger.calendar
    again = Inn(house.plan, house.stock, business.ledger.book, calendar.rooms, calendar.first, calendar.after)
    again.keeper = Keeper(again, business)
    return again


def inn_parts(inn):
    """What makes inns equal; who has come is told by the history of the house."""
    business = inn.keeper.affairs
    return business.ledger.book, business.ledger.calendar, business.day, business.house


def comers_of(business):
    """The list of the names of all who have come, in the order in which they came."""
    return [deed[1] for deed in business.house.history if len(deed) == 3]
