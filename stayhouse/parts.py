"""The four parts of a house, places, lockers, carts and the purse, and what they have handed out."""

from stayhouse.carts import back_of
from stayhouse.checks import MOST_SIZE
from stayhouse.errors import BadHouse, BadStock
from stayhouse.fittings import Least
from stayhouse.guides import check_plan
from stayhouse.lines import can_pay
from stayhouse.racks import rack_in
from stayhouse.stock import Stock, halls_of


def check_stock(plan, stock):
    """Raises unless any values are a Plan and a Stock for it."""
    check_plan(plan)
    if not isinstance(stock, Stock):
        raise BadHouse("stock")
    names = [site.name for site in plan.sites]
    if not all([name in names for name in stock.bays]):
        raise BadStock("bays")
    if not all([hall in plan.halls for hall in halls_of(stock)]):
        raise BadStock("racks")
    if not all([gate in plan.gates for gate in stock.carts]):
        raise BadStock("carts")
    if len(stock.sums) != plan.lines:
        raise BadStock("sums")


class Parts:
    """What the parts have handed out, all told less what came back; it changes.

    So it is the same with each stock that hands out the same. What a guest *got* is a tuple (site, locker, gate, line),
    0 for no locker, None for no cart and for no price.
    """

    def __init__(self, plan, stock):
        self.scheme = plan
        self.goods = stock
        # Guests by (wish, site, locker), bays by site, lockers by (hall, size), carts by gate, sums by line.
        self.things = {}
        self.bays_out = {}
        self.lockers_out = {}
        self.carts_out = {}
        self.paid = (0,) * plan.lines

    def answer(self, name):
        """What a coming guest of a wish gets; the word of the part that refuses him."""
        wish = self.scheme[name]
        site = self.site_for(wish)
        if site is None:
            return "places"
        locker = self.locker_for(wish.size, site.hall)
        if locker is None:
            return "lockers"
        if wish.cart and self.carts_at(site.gate) < 1:
            return "carts"
        if not can_pay(self.goods.sums, self.goods.caps, paid_with(self.paid, site.line, wish.price)):
            return "purse"
        return site.name, locker, site.gate if wish.cart else None, site.line if wish.price > 0 else None

    def site_for(self, wish):
        """The Site of which a guest gets a bay, None without one."""
        for name, keep in wish.picks:
            if self.goods.bays[name] - self.bays_out.get(name, 0) > keep:
                return self.scheme.site_of(name)
        return None

    def locker_for(self, size, hall):
        """The size of the locker that a thing gets, 0 for no thing; None without one."""
        if size == 0:
            return 0
        told = self.scheme.fitting_of(hall)
        fitting = Least() if told is None else told
        return fitting(self.free_rack(hall), size)

    def free_rack(self, hall):
        """The Rack of the free lockers of a hall."""
        nine = self.goods.rack(hall).nine
        return rack_in([nine[at] - self.lockers_out.get((hall, at + 1), 0) for at in range(MOST_SIZE)])

    def carts_at(self, gate):
        """How many carts are at a gate."""
        return self.goods.carts[gate] - self.carts_out.get(gate, 0)

    def enter(self, name, got, times):
        """A guest comes with what he got; if times is -1, this is taken back."""
        site, _, gate, line = got
        self.hold(name, got, times)
        if gate is not None:
            self.carts_out[gate] = self.carts_out.get(gate, 0) + times
        if line is not None:
            self.paid = paid_with(self.paid, line, self.scheme[name].price * times)

    def leave(self, name, got, times):
        """A guest goes who got this; if times is -1, this is taken back."""
        self.hold(name, got, -times)
        back = back_of(self.scheme, name, got[0])
        if back is not None:
            self.carts_out[back] = self.carts_out.get(back, 0) - times

    def hold(self, name, got, more):
        """So many more guests hold a bay and a locker."""
        site, locker, _, _ = got
        thing = (name, site, locker)
        self.things[thing] = self.things.get(thing, 0) + more
        self.bays_out[site] = self.bays_out.get(site, 0) + more
        if locker > 0:
            place = (self.scheme.site_of(site).hall, locker)
            self.lockers_out[place] = self.lockers_out.get(place, 0) + more

    def copied(self):
        """Parts that have handed out the same, and change on their own."""
        parts = Parts(self.scheme, self.goods)
        parts.things = {thing: self.things[thing] for thing in self.things}
        parts.bays_out = {site: self.bays_out[site] for site in self.bays_out}
        parts.lockers_out = {place: self.lockers_out[place] for place in self.lockers_out}
        parts.carts_out = {gate: self.carts_out[gate] for gate in self.carts_out}
        parts.paid = self.paid
        return parts


def paid_with(paid, line, more):
    """What the lines have paid when one of them pays more."""
    return paid[:line - 1] + (paid[line - 1] + more,) + paid[line:]


def whole_of(parts):
    """The whole: what decides all that the parts will ever hand out."""
    things = sorted(set([(thing, parts.things[thing]) for thing in parts.things if parts.things[thing] > 0]))
    carts = [(gate, parts.carts_at(gate)) for gate in parts.scheme.gates]
    return tuple(things), tuple(carts), parts.paid


def parts_at(plan, stock, whole):
    """The Parts of a whole."""
    things, carts, paid = whole
    parts = Parts(plan, stock)
    for (name, site, locker), number in things:
        parts.hold(name, (site, locker, None, None), number)
    parts.carts_out = {gate: stock.carts[gate] - number for gate, number in carts}
    parts.paid = tuple(paid)
    return parts
