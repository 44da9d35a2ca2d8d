"""Judging: whether a house keeps its promise in all let rows, and what shows it."""

from stayhouse.cart_needs import CartNeed
from stayhouse.errors import BadStock, Unbounded
from stayhouse.guides import bays_of
from stayhouse.hearings import Hearing
from stayhouse.line_needs import LineNeed, greatest_of, intervals, least_sums
from stayhouse.lines import are_amounts
from stayhouse.lockers import Fits, least_racks, things_at
from stayhouse.needs import Ways, check_taken, need_with
from stayhouse.papers import Denial, Paper, lasting
from stayhouse.parts import check_stock
from stayhouse.places import Housed, knot_at, place_search
from stayhouse.stock import Stock
from stayhouse.tolls import gate_toll, line_toll


class Safe(Paper):
    """Nobody is refused in any let row: what shows it for places, each hall, each gate, each interval of lines."""

    def __init__(self, places, lockers, carts, sums):
        self.places = lasting(places)
        self.lockers = lasting(lockers)
        self.carts = lasting(carts)
        self.sums = lasting(sums)

    def kept(self):
        """What the paper keeps."""
        return self.places, self.lockers, self.carts, self.sums


class Unsafe(Denial):
    """A part refuses the last guest of a let row."""

    def __init__(self, row, part):
        self.row = lasting(row)
        self.part = lasting(part)

    def kept(self):
        """What the paper keeps."""
        return self.row, self.part


class Needs(Paper):
    """The least carts at each gate, and the greatest need of each interval of lines."""

    def __init__(self, carts, sums):
        self.carts = lasting(carts)
        self.sums = lasting(sums)

    def kept(self):
        """What the paper keeps."""
        return self.carts, self.sums


def judge(plan, stock):
    """A Safe if nobody is refused in any let row; otherwise an Unsafe of the least row that is refused."""
    check_stock(plan, stock)
    hearing = Hearing(plan, stock)
    refusal = hearing.least_refusal()
    if refusal is not None:
        row, part = refusal
        return Unsafe(row, part)
    return safe_told(hearing)


def safe_told(hearing):
    """The Safe of a hearing in which nobody is refused."""
    search = hearing.places
    knots = [knot_at(search, stop) for stop in search.stops]
    halls = {hall: Fits(hall_knots(hearing.halls[hall])) for hall in hearing.halls}
    carts = {gate: cart_need(Ways(search, toll), knots) for gate, (toll, _) in hearing.gates.items()}
    sums = {pair: line_need(Ways(search, toll), knots) for pair, (toll, _) in hearing.intervals.items()}
    return Safe(Housed(tuple(knots)), halls, carts, sums)


def hall_knots(search):
    """The tuple of all hall knots of a search."""
    return tuple([(knot_at(search, stop), things_at(search, stop)) for stop in search.stops])


def cart_need(ways, knots):
    """The CartNeed of a gate whose need has an end."""
    number, heights, row = need_with(ways, knots)
    return CartNeed(number, heights, row)


def line_need(ways, knots):
    """The LineNeed of an interval of lines whose need has an end."""
    number, heights, row = need_with(ways, knots)
    return LineNeed(number, heights, row)


def is_safe(plan, stock):
    """Whether nobody is refused in any let row."""
    check_stock(plan, stock)
    return Hearing(plan, stock).is_kept()


def shortest_refusal(plan, stock):
    """The least let row whose last event is refused; None if there is none."""
    check_stock(plan, stock)
    refusal = Hearing(plan, stock).least_refusal()
    return None if refusal is None else refusal[0]


def needs(plan, bays):
    """The Needs of told bays."""
    search = place_search(plan, bays)
    check_taken(plan, search)
    carts = {gate: greatest_of(Ways(search, gate_toll(plan, gate))) for gate in plan.gates}
    sums = {(i, j): greatest_of(Ways(search, line_toll(plan, i, j))) for i, j in intervals(plan)}
    return Needs(carts, sums)


def least_stocks(plan, bays, caps):
    """All stocks with told bays and caps that have the least carts, the least sums, and least racks."""
    told = bays_of(plan, bays)
    if not are_amounts(caps) or len(caps) != plan.lines - 1:
        raise BadStock("caps")
    chain = tuple(caps)
    carts = needs(plan, told).carts
    if not all([carts[gate] is not None for gate in carts]):
        raise Unbounded("carts")
    sums = least_sums(plan, told, chain)
    racks = [least_racks(plan, told, hall) for hall in plan.halls]
    # Where no rack of a hall is enough, there is no choice.
    chosen = [0] * len(racks) if all([len(told_racks) > 0 for told_racks in racks]) else None
    while chosen is not None:
        table = {hall: racks[at][chosen[at]] for at, hall in enumerate(plan.halls)}
        yield Stock(told, table, carts, sums, chain)
        chosen = turned_on(chosen, racks)


def turned_on(chosen, racks):
    """The next choice of one rack of each hall, the last hall turning first; None behind the last choice."""
    for at in range(len(racks) - 1, -1, -1):
        if chosen[at] + 1 < len(racks[at]):
            return chosen[:at] + [chosen[at] + 1] + [0] * (len(racks) - at - 1)
    return None
