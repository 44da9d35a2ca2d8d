"""Live houses: each guest is taken by all parts in one beat, or by none."""

from stayhouse.affairs import Affairs, Deed, bays_left, carts_left, is_repeated, standing_of
from stayhouse.checks import is_name, is_sequence
from stayhouse.counts import counts_in
from stayhouse.errors import BadHouse, BadName, BadRow, Barred, NoGuest, NoHall, NoWish, Refused, StayError
from stayhouse.keepers import Keeper
from stayhouse.lines import left_with, wanted_of
from stayhouse.parts import Parts, check_stock, whole_of
from stayhouse.promises import limits_that


class House:
    """A house with guests, and all that was done there."""

    def __init__(self, plan, stock):
        check_stock(plan, stock)
        self.keeper = Keeper(self, Affairs(Parts(plan, stock)))

    @staticmethod
    def led(plan, stock, history):
        """The House behind a history."""
        house = House(plan, stock)
        if not is_sequence(history):
            raise BadRow("history")
        for at, deed in enumerate(history):
            lead(house, at, deed)
        return house

    def come(self, name, wish):
        """A guest comes; returns what he gets."""
        check_comer(self, name, wish)
        affairs = self.keeper.affairs
        answer = affairs.parts.answer(wish)
        if isinstance(answer, str):
            raise Refused(answer, wish)
        deed = Deed(("come", name, wish), wish, answer)
        affairs.carry_out(deed)
        return deed.given

    def go(self, name):
        """A guest goes; returns what he held."""
        coming = coming_of(self, name)
        affairs = self.keeper.affairs
        affairs.carry_out(Deed(("go", name), coming.wish, coming.got))
        return coming.given

    def __getitem__(self, name):
        return coming_of(self, name).given

    def __setitem__(self, name, wish):
        self.come(name, wish)

    def __contains__(self, value):
        return isinstance(value, str) and value in self.keeper.affairs.guests

    def __len__(self):
        return len(self.keeper.names)

    def __iter__(self):
        return iter(self.keeper.names)

    def wish_of(self, name):
        """The wish of a guest."""
        return coming_of(self, name).wish

    def free_in(self, hall):
        """The Rack of the free lockers of a hall."""
        if hall not in self.plan.halls:
            raise NoHall(hall)
        return self.keeper.affairs.parts.free_rack(hall)

    @property
    def plan(self):
        """The Plan."""
        return self.keeper.affairs.parts.scheme

    @property
    def stock(self):
        """The Stock; it can be set to another one with which the same history hands out just the same."""
        return self.keeper.affairs.parts.goods

    @stock.setter
    def stock(self, value):
        self.set_stock(value)

    def set_stock(self, stock):
        """Sets the stock to another one with which the same history hands out just the same."""
        affairs = self.keeper.affairs
        if not hands_out_same(self.plan, stock, affairs.past):
            raise BadHouse("stock")
        parts = affairs.parts
        parts.goods = stock
        affairs.undone = []

    @property
    def now(self):
        """The Counts of the wishes of those who are there."""
        return standing_of(self.keeper.affairs.parts)

    @property
    def so_far(self):
        """The Counts of the wishes of all who were taken."""
        return counts_in(self.keeper.affairs.came)

    @property
    def free_bays(self):
        """The Counts of the free bays."""
        return bays_left(self.keeper.affairs.parts)

    @property
    def carts_now(self):
        """The Counts of the carts at the gates."""
        return carts_left(self.keeper.affairs.parts)

    @property
    def left(self):
        """What each line has left."""
        parts = self.keeper.affairs.parts
        sums = parts.goods.sums
        return left_with(sums, parts.paid, wanted_of(sums, parts.paid)[1:])

    @property
    def moved_on(self):
        """What each line but the last one moved on to the next one."""
        parts = self.keeper.affairs.parts
        return wanted_of(parts.goods.sums, parts.paid)[1:]

    @property
    def whole(self):
        """The whole: what decides all that the house will ever do."""
        return whole_of(self.keeper.affairs.parts)

    @property
    def history(self):
        """The deeds that were carried out and not undone."""
        return tuple([deed.told for deed in self.keeper.affairs.past])

    def undo(self):
        """Takes the last deed back; whether there was one."""
        affairs = self.keeper.affairs
        if not affairs.past:
            return False
        affairs.take_back()
        return True

    def redo(self):
        """Does the last deed that was undone again; whether there was one."""
        affairs = self.keeper.affairs
        if not affairs.undone:
            return False
        affairs.do_again()
        return True

    def trial(self):
        """A block behind which the house is as it was when the block began."""
        return self.keeper

    def tried(self, work):
        """What work returns, called with the house in the block of a trial."""
        with self.trial() as same:
            return work(same)

    def __eq__(self, other):
        return isinstance(other, House) and house_parts(self) == house_parts(other)


def house_again(house):
    """The House behind the history of a house, with nothing to do again; it goes its own way."""
    affairs = house.keeper.affairs.copied()
    affairs.undone = []
    again = House(house.plan, house.stock)
    again.keeper = Keeper(again, affairs)
    return again


def house_parts(house):
    """What makes houses equal."""
    return house.plan, house.stock, house.history


def coming_of(house, name):
    """The deed by which a guest who is there came."""
    if name not in house:
        raise NoGuest(name)
    return house.keeper.affairs.guests[name]


def check_comer(house, name, wish):
    """Raises if a coming is wrong, or barred by the promise."""
    if not is_name(name):
        raise BadName(name)
    if name in house:
        raise BadHouse("there")
    if wish not in house.plan:
        raise NoWish(wish)
    one = counts_in({wish: 1})
    limits = house.plan.promise.limits
    if not are_kept(limits_that(limits, False), house.now + one):
        raise Barred("promise")
    if not are_kept(limits_that(limits, True), house.so_far + one):
        raise Barred("year")


def are_kept(limits, counts):
    """Whether counts keep all limits."""
    return all([limit.keeps(counts) for limit in limits])


def hands_out_same(plan, stock, past):
    """Whether any value is a Stock for a plan with which the same deeds hand out just the same."""
    try:
        check_stock(plan, stock)
        return is_repeated(Parts(plan, stock), past)
    except StayError:
        return False


def is_deed(value):
    """Whether any value has one of the two forms of deeds."""
    if not isinstance(value, tuple) or not 2 <= len(value) <= 3 or not isinstance(value[0], str):
        return False
    return value[0] == ("come" if len(value) == 3 else "go")


def lead(house, at, deed):
    """Carries out the deed of a history at an index."""
    if not is_deed(deed):
        raise BadRow(at)
    try:
        if len(deed) == 3:
            house.come(deed[1], deed[2])
        else:
            house.go(deed[1])
    except StayError as why:
        raise BadRow(at) from why
