"""Webs under way: all knots that come about while nobody is refused, and the steps between them."""

from stayhouse.errors import TooMany
from stayhouse.trails import no_trail

MOST_KNOTS = 20000


class Stop:
    """A knot that came about: its state, what is free and left there, the least row to it, and its steps."""

    def __init__(self, state, rests, free, nine, level, trail):
        self.state = state
        self.rests = rests
        self.free = free
        self.nine = nine
        # How many came of counted wishes: no step leads to fewer.
        self.level = level
        self.trail = trail
        # The steps: of a wish that comes the pair (slot, index of the stop behind); of a slot that index.
        self.comings = {}
        self.goings = {}
        # The wishes that places refuse here, and those that the hall refuses.
        self.crowded = []
        self.short = []


class Search:
    """All stops of a guide, in the order of the least rows that lead to them.

    The stops are gone over in this order, and from each of them the steps in the order of their events:
    so the first row that comes to a knot is the least one.
    """

    def __init__(self, guide):
        self.guide = guide
        self.found = {}
        self.stops = []
        # What is made of all the steps at once, when it is asked for.
        self.lanes = None
        self.add_stop(Stop(0, guide.frame.bounds, guide.free, guide.nine, 0, no_trail()))
        at = 0
        while at < len(self.stops):
            self.follow_comings(self.stops[at])
            self.follow_goings(self.stops[at])
            at += 1

    def add_stop(self, stop):
        """One more stop."""
        if len(self.stops) == MOST_KNOTS:
            raise TooMany("knots", MOST_KNOTS)
        self.found[stop.state] = len(self.stops)
        self.stops.append(stop)

    def follow_comings(self, stop):
        """Goes the let comings from a stop, names ascending."""
        guide = self.guide
        for name in guide.frame.names:
            if guide.frame.lets(name, stop.rests):
                at = guide.offered(stop.free, name)
                if at is None:
                    stop.crowded.append(name)
                else:
                    self.come_to(stop, name, guide.slot_for(stop.nine, name, guide.sites[at]))

    def come_to(self, stop, name, slot):
        """Goes one coming, which the hall refuses if there is no slot."""
        guide = self.guide
        if slot is None:
            stop.short.append(name)
            return
        yearly = guide.year_units.get(name, 0)
        state = stop.state + guide.units[slot] + yearly
        if state not in self.found:
            rests = guide.frame.rests_with(name, stop.rests)
            free = guide.free_behind(stop.free, slot, -1)
            nine = guide.nine_behind(stop.nine, slot, -1)
            level = stop.level + 1 if yearly else stop.level
            self.add_stop(Stop(state, rests, free, nine, level, stop.trail.with_coming(name, slot)))
        stop.comings[name] = (slot, self.found[state])

    def follow_goings(self, stop):
        """Goes the goings from a stop, those who came first ahead."""
        guide = self.guide
        new = {}
        for slot in stop.trail.lasts:
            many = guide.number_at(stop.state, slot)
            if many > 0:
                state = stop.state - guide.units[slot]
                if state in self.found:
                    stop.goings[slot] = self.found[state]
                else:
                    new[stop.trail.leaver(slot, many)] = slot
        for number in sorted([int(number) for number in new]):
            self.go_to(stop, new[number], number)

    def go_to(self, stop, slot, number):
        """Goes one going to a knot that is come to for the first time."""
        guide = self.guide
        state = stop.state - guide.units[slot]
        rests = guide.frame.rests_without(guide.triples[slot][0], stop.rests)
        free = guide.free_behind(stop.free, slot, 1)
        nine = guide.nine_behind(stop.nine, slot, 1)
        self.add_stop(Stop(state, rests, free, nine, stop.level, stop.trail.with_going(number)))
        stop.goings[slot] = self.found[state]

    def slots_at(self, stop):
        """The pairs (slot, number) of the guests who are there at a stop, slots ascending."""
        slots = sorted([int(slot) for slot in stop.goings])
        return [(slot, self.guide.number_at(stop.state, slot)) for slot in slots]

    def year_at(self, stop):
        """The year of the knot of a stop."""
        guide = self.guide
        first = len(guide.triples)
        numbers = [(name, guide.number_at(stop.state, first + at)) for at, name in enumerate(guide.counted)]
        return tuple([(name, number) for name, number in numbers if number > 0])

    def links(self, stop):
        """The triples (kind, slot, index of the stop behind) of all steps from a stop, as webs tell them."""
        links = []
        for name in self.guide.names:
            if name in stop.comings:
                slot, behind = stop.comings[name]
                links.append(("come", slot, behind))
        for slot in sorted([int(slot) for slot in stop.goings]):
            links.append(("go", slot, stop.goings[slot]))
        return links
