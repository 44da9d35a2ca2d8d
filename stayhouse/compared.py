"""Two houses compared: whether they answer alike in all let rows, and whether one never refuses more."""

from stayhouse.checks import MOST_SIZE
from stayhouse.counts import counts_in
from stayhouse.doubles import Houses
from stayhouse.errors import BadHouse, BadPlan, BadPromise, BadStock, TooMany
from stayhouse.house import House
from stayhouse.papers import Denial, Paper, lasting
from stayhouse.parts import check_stock
from stayhouse.racks import rack_in
from stayhouse.stock import Stock
from stayhouse.trails import no_trail

MOST_DOUBLES = 20000


class Alike(Paper):
    """Two houses answer alike: all doubles that come about."""

    def __init__(self, table):
        self.table = lasting(table)

    def kept(self):
        """What the paper keeps."""
        return (self.table,)


class Parted(Denial):
    """Just one of two houses, the taker, takes the last guest of a let row."""

    def __init__(self, row, taker):
        self.row = lasting(row)
        self.taker = lasting(taker)

    def kept(self):
        """What the paper keeps."""
        return self.row, self.taker


class Never(Paper):
    """One house never refuses more than another one: all doubles that come about."""

    def __init__(self, table):
        self.table = lasting(table)

    def kept(self):
        """What the paper keeps."""
        return (self.table,)


class More(Denial):
    """One house refuses the last guest of a let row whom another one takes."""

    def __init__(self, row):
        self.row = lasting(row)

    def kept(self):
        """What the paper keeps."""
        return (self.row,)


class Stand:
    """A Meet that is come to, and the least row to it; the Mets of its comings, once they are looked at."""

    def __init__(self, meet, trail):
        self.meet = meet
        self.trail = trail
        self.mets = []


class Contest:
    """All Stands of two houses, in the order of the least rows that lead to them, up to the first coming that parts.

    Whether a coming parts is told by a function of the pair: whether each of both houses takes it.
    """

    def __init__(self, houses, parts_them):
        first = Stand(houses.first_meet(), no_trail())
        self.houses = houses
        self.stands = [first]
        self.found = {first.meet.key: True}
        # The least row that parts, and whether each of both takes its last guest.
        self.row = None
        self.taken = None
        level = [first]
        while level:
            # All rows alike long are looked at ahead of longer ones: these cannot be too many for a row that parts.
            self.look(level, parts_them)
            level = self.level_behind(level) if self.row is None else []

    def look(self, level, parts_them):
        """Looks at the comings from some Stands, up to the first one that parts."""
        for stand in level:
            stand.mets = self.houses.met_from(stand.meet)
            for met in stand.mets:
                if parts_them(met.taken):
                    self.row = stand.trail.told_row() + (met.name,)
                    self.taken = met.taken
                    return

    def level_behind(self, level):
        """The list of the new Stands one event behind some Stands."""
        begin = len(self.stands)
        for stand in level:
            self.follow_comings(stand)
            self.follow_goings(stand)
        return self.stands[begin:]

    def add_stand(self, meet, trail):
        """One more Stand."""
        if len(self.stands) == MOST_DOUBLES:
            raise TooMany("standings", MOST_DOUBLES)
        self.found[meet.key] = True
        self.stands.append(Stand(meet, trail))

    def follow_comings(self, stand):
        """Goes the comings from a Stand, names ascending."""
        for met in stand.mets:
            if met.meet.key not in self.found:
                self.add_stand(met.meet, stand.trail.with_coming(met.name, met.slot))
        # They are not looked at again.
        stand.mets = []

    def follow_goings(self, stand):
        """Goes the goings from a Stand, those who came first ahead."""
        behind = {stand.trail.leaver(slot, many): slot for slot, many in stand.meet.key[0]}
        for number in sorted([int(number) for number in behind]):
            meet = self.houses.meet_without(stand.meet, behind[number])
            if meet.key not in self.found:
                self.add_stand(meet, stand.trail.with_going(number))

    def doubles(self):
        """The tuple of all doubles."""
        return tuple([self.houses.double_at(stand.meet) for stand in self.stands])


def check_houses(one, other):
    """Raises unless any values are two Houses whose plans have wishes of the same names and equal promises."""
    if not isinstance(one, House):
        raise BadHouse("one")
    if not isinstance(other, House):
        raise BadHouse("other")
    if sorted(set(one.plan.names)) != sorted(set(other.plan.names)):
        raise BadPlan("wishes")
    if one.plan.promise != other.plan.promise:
        raise BadPromise("other")


def houses_of(one, other):
    """The two Houses of live houses, as if nobody had come."""
    check_houses(one, other)
    return Houses(one.plan, one.stock, other.plan, other.stock)


def is_parted(taken):
    """Whether just one of two houses takes a coming."""
    return taken[0] != taken[1]


def is_more(taken):
    """Whether the first one of two houses refuses a coming that the other one takes."""
    return taken[1] and not taken[0]


def alike(one, other):
    """An Alike if both houses answer alike in all let rows, a Parted otherwise."""
    contest = Contest(houses_of(one, other), is_parted)
    if contest.row is None:
        return Alike(contest.doubles())
    return Parted(contest.row, "one" if contest.taken[0] else "other")


def never_more(one, other):
    """A Never if one never refuses more than the other in any let row, a More otherwise."""
    contest = Contest(houses_of(one, other), is_more)
    return Never(contest.doubles()) if contest.row is None else More(contest.row)


def row_of_more(plan, stock, other_stock):
    """The least row whose last guest a house refuses with one stock and takes with another one; None without one."""
    return Contest(Houses(plan, stock, plan, other_stock), is_more).row


def check_house(house):
    """Raises unless any value is a House."""
    if not isinstance(house, House):
        raise BadHouse("house")


def spoils(house, stock):
    """None if a house with a greater stock never refuses more than with its own, a More otherwise."""
    check_house(house)
    if not isinstance(stock, Stock):
        raise BadStock("stock")
    if not house.stock <= stock:
        raise BadStock("less")
    check_stock(house.plan, stock)
    row = row_of_more(house.plan, stock, house.stock)
    return None if row is None else More(row)


def spoilers(house):
    """The pairs (thing, row) of all things one more of which spoils, each with the row of its More."""
    check_house(house)
    plan = house.plan
    own = house.stock
    # All of them are looked at ahead of the first one that is told: so what raises an error raises it there.
    rows_of_things = [(thing, row_of_more(plan, stock, own)) for thing, stock in greater_stocks(plan, own)]
    for thing, row in rows_of_things:
        if row is not None:
            yield thing, row


def greater_stocks(plan, stock):
    """The list of the pairs (thing, stock) of all stocks with one more of one thing."""
    told = []
    for site in plan.sites:
        told.append((f"bay {site.name}", stock.with_bays(stock.bays + counts_in({site.name: 1}))))
    for hall in plan.halls:
        rack = stock.rack(hall)
        for size in range(1, MOST_SIZE + 1):
            told.append((f"locker {hall} {size}", stock.with_rack(hall, rack + rack_in({size: 1}))))
    for gate in sorted(set([site.gate for site in plan.sites])):
        told.append((f"cart {gate}", stock.with_carts(gate, stock.carts[gate] + 1)))
    for line, amount in enumerate(stock.sums, start=1):
        told.append((f"sum {line}", stock.with_sum(line, amount + 1)))
    for line, amount in enumerate(stock.caps, start=1):
        told.append((f"cap {line}", stock.with_cap(line, amount + 1)))
    return told


def closer(one, other):
    """Which of two houses never refuses more: `one`, `other`, both (`alike`), none of them (`apart`)."""
    first = Contest(houses_of(one, other), is_more).row is None
    second = Contest(houses_of(other, one), is_more).row is None
    if first and second:
        return "alike"
    if first:
        return "one"
    return "other" if second else "apart"
