"""Looks at told knots and rows: what places, and a hall, do there, without a search."""

from stayhouse.courses import part_of
from stayhouse.guides import Guide
from stayhouse.knots import is_hall_knot, is_knot, one_fewer, one_more, sums_of
from stayhouse.rows import broken_at, wrong_at
from stayhouse.weighing import bounds_of, column_of, fits


class Look:
    """A plan with told bays, and maybe a hall, made ready for looks at any knots."""

    def __init__(self, plan, bays, hall):
        limits = plan.promise.limits
        columns = {name: column_of(name, limits) for name in plan.names}
        self.guide = Guide(plan, bays, hall)
        self.pairs = plan.pairs
        self.columns = columns
        self.bounds = bounds_of(limits)
        self.once = {name: part_of(columns[name], limits, False) for name in columns}
        self.yearly = {name: part_of(columns[name], limits, True) for name in columns}
        # What `steps_from` told: one knot is looked at for many gates and intervals of lines.
        self.known = {}

    def rests_at(self, knot):
        """What the limits leave at a knot."""
        held, year = knot
        left = list(self.bounds)
        for name, _, many in held:
            for at, weight in self.once[name]:
                left[at] -= weight * many
        for name, many in year:
            for at, weight in self.yearly[name]:
                left[at] -= weight * many
        return tuple(left)

    def free_at(self, held):
        """The free bays, by site."""
        away = sums_of(held, 1)
        guide = self.guide
        return tuple([many - away.get(site, 0) for site, many in zip(guide.sites, guide.free)])

    def nine_at(self, things):
        """The free lockers of the sizes 1 to 9."""
        away = sums_of(things, 2)
        return tuple([many - away.get(at + 1, 0) for at, many in enumerate(self.guide.nine)])

    def is_here(self, knot):
        """Whether any value is a knot of the plan that keeps the promise and takes no more than the bays."""
        if not is_knot(knot):
            return False
        held, year = knot
        if not all([(name, site) in self.pairs for name, site, _ in held]):
            return False
        if not all([name in self.guide.counted for name, _ in year]):
            return False
        return all([left >= 0 for left in self.rests_at(knot) + self.free_at(held)])

    def is_in_hall(self, knot):
        """Whether any value is a hall knot of the plan whose things are just those of its guests, and fit."""
        if not is_hall_knot(knot) or not self.is_here(knot[0]):
            return False
        held = knot[0][0]
        things = knot[1]
        sizes = self.guide.hall.sizes
        told = {}
        for name, site, locker, many in things:
            if (name, site) not in sizes or locker < sizes[(name, site)]:
                return False
            told[(name, site)] = told.get((name, site), 0) + many
        if told != {(name, site): many for name, site, many in held if (name, site) in sizes}:
            return False
        return all([left >= 0 for left in self.nine_at(things)])

    def bays_from(self, knot):
        """The list of the pairs (wish, site) of all let comings from a knot; None for the site if places refuse."""
        rests = self.rests_at(knot)
        free = self.free_at(knot[0])
        guide = self.guide
        told = []
        for name in guide.names:
            if fits(self.columns[name], rests):
                at = guide.offered(free, name)
                told.append((name, None if at is None else guide.sites[at]))
        return told

    def knot_with(self, knot, name, site):
        """The knot behind a coming."""
        held, year = knot
        return one_more(held, (name, site)), one_more(year, (name,)) if name in self.guide.counted else year

    def knot_without(self, knot, name, site):
        """The knot behind a going."""
        return one_fewer(knot[0], (name, site)), knot[1]

    def steps_from(self, knot):
        """The list of all steps from a knot, and whether places refuse no let coming there."""
        if knot not in self.known:
            told = self.bays_from(knot)
            taken = [(name, site) for name, site in told if site is not None]
            comings = [("come", name, site, self.knot_with(knot, name, site)) for name, site in taken]
            goings = [("go", name, site, self.knot_without(knot, name, site)) for name, site, _ in knot[0]]
            self.known[knot] = (comings + goings, len(comings) == len(told))
        return self.known[knot]

    def hall_knots_from(self, knot):
        """The list of the hall knots behind all steps; None for a coming that the hall refuses."""
        below, things = knot
        nine = self.nine_at(things)
        sizes = self.guide.hall.sizes
        told = []
        for name, site in self.bays_from(below):
            if site is not None:
                slot = self.guide.slot_for(nine, name, site)
                locker = None if slot is None else self.guide.triples[slot][2]
                behind = self.knot_with(below, name, site)
                told.append(None if locker is None else (behind, things_with(things, name, site, locker)))
        for name, site, _ in below[0]:
            if (name, site) not in sizes:
                told.append((self.knot_without(below, name, site), things))
        for name, site, locker, _ in things:
            told.append((self.knot_without(below, name, site), one_fewer(things, (name, site, locker))))
        return told


def things_with(things, name, site, locker):
    """The things behind a coming; the locker is 0 for who has nothing in the hall."""
    return one_more(things, (name, site, locker)) if locker > 0 else things


def is_let_row(plan, row):
    """Whether any value is a let row of a plan, a tuple."""
    return isinstance(row, tuple) and wrong_at(row) is None and broken_at(plan.promise, row) is None


def walked(guide, events):
    """What a guide does with a row, event by event: the list of (kind, wish, site, locker).

    The site is None where places refuse, the locker where the hall does; he who was refused holds nothing.
    """
    free = guide.free
    nine = guide.nine
    guests = []
    told = []
    for event in events:
        if isinstance(event, str):
            at = guide.offered(free, event)
            slot = None if at is None else guide.slot_for(nine, event, guide.sites[at])
            guests.append((event, slot))
            told.append(("come",) + handed_out(guide, event, at, slot))
            more = -1
        else:
            name, slot = guests[event]
            told.append(("go",) + (guide.triples[slot] if slot is not None else (name, None, None)))
            more = 1
        if slot is not None:
            free = guide.free_behind(free, slot, more)
            nine = guide.nine_behind(nine, slot, more)
    return told


def handed_out(guide, name, at, slot):
    """The wish, the site, and the locker that a coming guest gets, None for what is refused."""
    if slot is not None:
        return guide.triples[slot]
    return name, None if at is None else guide.sites[at], None
