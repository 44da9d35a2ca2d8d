"""Lockers: what guests have in a hall, and whether it refuses anybody in some let row."""

from stayhouse.checks import MOST_SIZE
from stayhouse.errors import BadHouse, BadStock, NoHall, TooMany
from stayhouse.guides import Guide, Hall, bays_of, check_hall
from stayhouse.knots import has_bool, is_hall_knot, is_things, sums_of
from stayhouse.papers import Denial, Paper, lasting
from stayhouse.places import MOST_LOOKED, how_many_below, knot_at, numbers_below, place_search
from stayhouse.racks import Rack, rack_in
from stayhouse.webs import Search


class Fits(Paper):
    """A hall refuses nobody in any let row: all hall knots that come about."""

    def __init__(self, knots):
        self.knots = lasting(knots)

    def kept(self):
        """What the paper keeps."""
        return (self.knots,)


class Short(Denial):
    """A hall refuses the last guest of a let row."""

    def __init__(self, row):
        self.row = lasting(row)

    def kept(self):
        """What the paper keeps."""
        return (self.row,)


def free_lockers(rack, things):
    """The Rack of the lockers that are free beside the things."""
    if not isinstance(rack, Rack):
        raise BadStock("lockers")
    if not is_things(things) or has_bool(things):
        raise BadHouse("things")
    away = sums_of(things, 2)
    left = [many - away.get(at + 1, 0) for at, many in enumerate(rack.nine)]
    if not all([many >= 0 for many in left]):
        raise BadHouse("things")
    return rack_in(left)


def hall_search(plan, bays, hall, rack):
    """The Search of places and a hall; raises as LockerWeb."""
    told = bays_of(plan, bays)
    check_hall(plan, hall, rack)
    return Search(Guide(plan, told, Hall(plan, hall, rack)))


def things_at(search, stop):
    """The things of the hall knot of a stop."""
    numbers = [search.guide.triples[slot] + (many,) for slot, many in search.slots_at(stop)]
    return tuple([entry for entry in numbers if entry[2] > 0])


def short_at(search):
    """The list of the pairs (index of a stop, wish) of all comings that the hall refuses."""
    return [(at, name) for at, stop in enumerate(search.stops) for name in stop.short]


class LockerWeb:
    """The web of a hall: all hall knots that come about while neither places nor the hall refuse anybody."""

    def __init__(self, plan, bays, hall, rack):
        search = hall_search(plan, bays, hall, rack)
        knots = tuple([(knot_at(search, stop), things_at(search, stop)) for stop in search.stops])
        self.search = search
        self.knots = knots
        self.numbers = {knot: at for at, knot in enumerate(knots)}
        self.barred = tuple([(knots[at], name) for at, name in short_at(search)])

    def __len__(self):
        return len(self.knots)

    def __iter__(self):
        return iter(self.knots)

    def __contains__(self, value):
        return is_hall_knot(value) and not has_bool(value) and value in self.numbers

    def steps(self, knot):
        """The tuple of all steps from a hall knot: (kind, wish, site, locker, hall knot behind)."""
        stop = self.stop_at(knot)
        triples = self.search.guide.triples
        links = self.search.links(stop)
        return tuple([(kind,) + triples[slot] + (self.knots[at],) for kind, slot, at in links])

    def row_to(self, knot):
        """The least let row that leads to a hall knot."""
        return self.stop_at(knot).trail.told_row()

    def stop_at(self, knot):
        """The stop of a hall knot."""
        if knot not in self:
            raise BadHouse("knot")
        return self.search.stops[self.numbers[knot]]

    @property
    def refused(self):
        """The pairs (hall knot, wish) of all let comings that the hall refuses."""
        return self.barred

    def __bool__(self):
        return not self.barred

    def refusal(self):
        """The least let row whose last event is a coming that the hall refuses; None if there is none."""
        if not self.barred:
            return None
        knot, name = self.barred[0]
        return self.row_to(knot) + (name,)


def judged_hall(plan, bays, hall, rack):
    """A Fits if the hall refuses nobody in any let row, a Short otherwise."""
    web = LockerWeb(plan, bays, hall, rack)
    if web:
        return Fits(tuple(web))
    return Short(web.refusal())


def check_told(plan, bays, hall):
    """Raises for the first of any values that is no plan, no bays, no hall."""
    bays_of(plan, bays)
    if hall not in plan.halls:
        raise NoHall(hall)


def most_there(plan, bays, hall):
    """For each size how many things of it and of greater ones can be in the hall at once."""
    check_told(plan, bays, hall)
    search = place_search(plan, bays)
    sizes = Hall(plan, hall, Rack()).sizes
    most = [0] * MOST_SIZE
    for stop in search.stops:
        many = 0
        numbers = sizes_there(search, stop, sizes)
        for at in range(MOST_SIZE - 1, -1, -1):
            many += numbers[at]
            most[at] = max(int(most[at]), many)
    return tuple(most)


def sizes_there(search, stop, sizes):
    """How many things of each size are in a hall at a stop of places."""
    numbers = [0] * MOST_SIZE
    for slot, many in search.slots_at(stop):
        name, site, _ = search.guide.triples[slot]
        if (name, site) in sizes:
            numbers[sizes[(name, site)] - 1] += many
    return numbers


def least_racks(plan, bays, hall):
    """All least racks with which the hall refuses nobody in any let row."""
    most = most_there(plan, bays, hall)[0]
    here = Hall(plan, hall, Rack()).sizes
    sizes = sorted(set([here[pair] for pair in here]))
    tops = [most] * len(sizes)
    if how_many_below(tops) > MOST_LOOKED:
        raise TooMany("racks", MOST_LOOKED)
    found = []
    for rack in racks_in_order(sizes, numbers_below(tops)):
        # A rack above a found one is looked at, too: more lockers can be too many knots.
        safe = not short_at(hall_search(plan, bays, hall, rack))
        if safe and not any([less < rack for less in found]):
            found.append(rack)
    return tuple(found)


def racks_in_order(sizes, told):
    """The racks with told numbers of these sizes: the fewest lockers first, then the fewest of the greatest sizes."""
    racks = [rack_in({size: number for size, number in zip(sizes, numbers)}) for numbers in told]
    ordered = sorted(set([(rack.total,) + rack.nine[::-1] for rack in racks]))
    return [rack_in(numbers[:0:-1]) for numbers in ordered]
