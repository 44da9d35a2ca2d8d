"""Guides: what places, and a hall, hand out to those who come, made ready to be asked often."""

from stayhouse.checks import GREATEST, MOST_SIZE, is_within
from stayhouse.counts import Counts, counts_in
from stayhouse.courses import Frame
from stayhouse.errors import BadHouse, BadStock, NoHall
from stayhouse.fittings import Least
from stayhouse.plans import Plan
from stayhouse.racks import Rack

# So many bits tell a number in a state: no web with as many knots as are looked at has greater ones.
BITS = 16
MASK = 65535


def check_plan(plan):
    """Raises unless any value is a Plan."""
    if not isinstance(plan, Plan):
        raise BadHouse("plan")


def bays_of(plan, bays):
    """The Counts of told bays; raises for any values that are no Plan, no bays of it."""
    check_plan(plan)
    if not isinstance(bays, (dict, Counts)):
        raise BadStock("bays")
    names = [site.name for site in plan.sites]
    for site in bays:
        if site not in names or not is_within(bays[site], 0, GREATEST):
            raise BadStock("bays")
    return counts_in({site: bays[site] for site in names if site in bays})


def check_hall(plan, hall, rack):
    """Raises unless any values are a hall of a plan and a Rack."""
    if hall not in plan.halls:
        raise NoHall(hall)
    if not isinstance(rack, Rack):
        raise BadStock("lockers")


class Hall:
    """A hall of a plan: who has something there, and where its fitting puts it."""

    def __init__(self, plan, hall, rack):
        told = plan.fitting_of(hall)
        here = [site.name for site in plan.sites if site.hall == hall]
        sizes = {wish.name: wish.size for wish in plan.wishes}
        self.fitting = Least() if told is None else told
        self.nine = rack.nine
        # The sizes of the things of those guests, by wish and site, who have something in this hall.
        self.sizes = {pair: sizes[pair[0]] for pair in plan.pairs if pair[1] in here and sizes[pair[0]] > 0}
        self.answers = {}

    def locker_for(self, nine, size):
        """The size of the locker for a thing, None without one; the numbers of the free ones are told."""
        asked = (nine, size)
        if asked not in self.answers:
            self.answers[asked] = self.fitting(Rack(*nine), size)
        return self.answers[asked]

    def lockers_of(self, pair):
        """The sizes of lockers that a thing of a guest can get; 0 alone for who has nothing here."""
        if pair not in self.sizes:
            return [0]
        return [size for size in range(self.sizes[pair], MOST_SIZE + 1) if self.nine[size - 1] > 0]


class Guide:
    """Places alone, or places and a hall.

    A *slot* is the index of a triple (wish, site, locker), 0 for no locker here. How many guests there are of each
    slot, and behind these how many came of each counted wish, stands in one number, their *state*.
    """

    def __init__(self, plan, bays, hall):
        names = [site.name for site in plan.sites]
        lockers = {pair: [0] if hall is None else hall.lockers_of(pair) for pair in plan.pairs}
        triples = [(name, site, locker) for name, site in plan.pairs for locker in lockers[(name, site)]]
        counted = sorted([str(name) for name in plan.counted])
        units = [1 << (BITS * place) for place in range(len(triples) + len(counted))]
        self.names = plan.names
        self.frame = Frame(plan.promise)
        self.hall = hall
        self.free = tuple([bays[name] for name in names])
        self.nine = (0,) * MOST_SIZE if hall is None else hall.nine
        self.picks = {wish.name: [(names.index(site), keep) for site, keep in wish.picks] for wish in plan.wishes}
        self.sites = tuple(names)
        self.triples = tuple(triples)
        self.slots = {triple: slot for slot, triple in enumerate(triples)}
        self.counted = tuple(counted)
        # What one guest of a slot, and one of a counted wish, is in a state.
        self.units = units
        self.year_units = {name: units[len(triples) + at] for at, name in enumerate(counted)}

    def number_at(self, state, place):
        """The number that stands at a place of a state: of a slot, or of a counted wish behind the slots."""
        return (state >> (BITS * place)) & MASK

    def offered(self, free, name):
        """The index of the site where a coming guest gets a bay, None without one; the free bays are told."""
        for at, keep in self.picks[name]:
            if free[at] > keep:
                return at
        return None

    def slot_for(self, nine, name, site):
        """The slot of a coming guest with a bay of a site, None if the hall refuses him."""
        locker = 0
        if self.hall is not None and (name, site) in self.hall.sizes:
            locker = self.hall.locker_for(nine, self.hall.sizes[(name, site)])
        return None if locker is None else self.slots[(name, site, locker)]

    def free_behind(self, free, slot, more):
        """The free bays when so many more of the site of a slot are free."""
        at = self.sites.index(self.triples[slot][1])
        return free[:at] + (free[at] + more,) + free[at + 1:]

    def nine_behind(self, nine, slot, more):
        """The free lockers when so many more of that of a slot are free."""
        locker = self.triples[slot][2]
        if locker == 0:
            return nine
        return nine[:locker - 1] + (nine[locker - 1] + more,) + nine[locker:]
