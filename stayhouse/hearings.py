"""Hearings: all that tells whether a house keeps its promise, part by part, and the least rows that refuse somebody.

Until the first refusal all comings are taken: so places stand as if alone, and each other part sees what places
hand out, alone. The least row that is refused is the least one of those that the parts tell.
"""

from stayhouse.errors import TooMany
from stayhouse.guides import Guide, Hall
from stayhouse.line_needs import intervals
from stayhouse.lines import Lines
from stayhouse.needs import Ways
from stayhouse.tolls import gate_toll, line_toll
from stayhouse.trails import no_trail
from stayhouse.webs import Search

MOST_PAIRS = 20000


class Hearing:
    """The searches of places and of all halls, and the tolls of all gates and of all intervals of lines.

    What is at most there is told beside the tolls: the carts at a gate, what an interval of lines reaches.
    """

    def __init__(self, plan, stock):
        # A stock may have more bays than may be told: so nothing looks at their numbers here.
        chain = Lines(stock.sums, stock.caps)
        self.places = Search(Guide(plan, stock.bays, None))
        self.halls = {hall: hall_heard(plan, stock, hall) for hall in plan.halls}
        self.gates = {gate: (gate_toll(plan, gate), stock.carts[gate]) for gate in plan.gates}
        self.intervals = {(i, j): (line_toll(plan, i, j), chain.reach(i, j)) for i, j in intervals(plan)}

    def is_kept(self):
        """Whether nobody is refused in any let row."""
        if crowded_row(self.places) is not None:
            return False
        if any([short_row(self.halls[hall]) is not None for hall in self.halls]):
            return False
        wants = wanted(self.gates) + wanted(self.intervals)
        return all([is_enough(self.places, toll, most) for toll, most in wants])

    def least_refusal(self):
        """The pair (row, part) of the least row whose last event is refused; None if there is none."""
        best = nearer(None, crowded_row(self.places), "places")
        for hall in self.halls:
            best = nearer(best, short_row(self.halls[hall]), "lockers")
        # How long rows may be at least that were not looked at for some gate or interval.
        gaps = []
        for part, wants in (("carts", wanted(self.gates)), ("purse", wanted(self.intervals))):
            for toll, most in wants:
                if not is_enough(self.places, toll, most):
                    quest = Quest(self.places, toll, most, None if best is None else len(best[0]))
                    best = nearer(best, quest.row, part)
                    if quest.gap is not None:
                        gaps.append(quest.gap)
        if any([best is None or len(best[0]) > gap for gap in gaps]):
            raise TooMany("rows", MOST_PAIRS)
        return best


def hall_heard(plan, stock, hall):
    """The Search of places and a hall."""
    return Search(Guide(plan, stock.bays, Hall(plan, hall, stock.rack(hall))))


def wanted(table):
    """The list of the pairs (toll, what is at most there) of a dict."""
    return [table[key] for key in table]


def is_enough(search, toll, most):
    """Whether the need is at most so much behind all rows."""
    ways = Ways(search, toll)
    return ways.endless() is None and all([height <= most for height in ways.greatest_needs()])


def crowded_row(search):
    """The least row whose last event is a coming that places refuse; None without one."""
    for stop in search.stops:
        if stop.crowded:
            return stop.trail.told_row() + (stop.crowded[0],)
    return None


def short_row(search):
    """The least row whose last event is a coming that the hall refuses; None without one."""
    for stop in search.stops:
        if stop.short:
            return stop.trail.told_row() + (stop.short[0],)
    return None


def marks_of(row):
    """What orders rows that are alike long: names ahead of numbers."""
    return [(0, event, 0) if isinstance(event, str) else (1, "", event) for event in row]


def nearer(best, row, part):
    """The lesser one of a pair (row, part) and a row that a further part refuses; of equal ones the first."""
    if row is None:
        return best
    if best is None or len(row) < len(best[0]):
        return row, part
    if len(row) == len(best[0]) and marks_of(row) < marks_of(best[0]):
        return row, part
    return best


class Mark:
    """A knot, a need at it, and the least row that leads to both."""

    def __init__(self, at, need, length, trail):
        self.at = at
        self.need = need
        self.length = length
        self.trail = trail


class Quest:
    """The least row whose last event would make a need more than there is, as long as it is not longer than told.

    The marks are gone over in the order of their least rows. Where there are too many, those of the rows that are
    as long as the last ones that were gone over are left out: up to `gap` events no row was missed.
    """

    def __init__(self, search, toll, most, longest):
        triples = search.guide.triples
        self.search = search
        self.most = most
        self.takes = [toll.takes[(name, site)] for name, site, _ in triples]
        self.gives = [toll.gives[(name, site)] for name, site, _ in triples]
        self.marks = [Mark(0, 0, 0, no_trail())]
        self.found = {(0, 0): True}
        self.row = None
        self.gap = None
        turn = 0
        while self.row is None and turn < len(self.marks) and self.is_open(self.marks[turn].length, longest):
            self.follow(self.marks[turn])
            turn += 1

    def is_open(self, length, longest):
        """Whether rows one event longer are looked for."""
        return (self.gap is None or length < self.gap) and (longest is None or length < longest)

    def follow(self, mark):
        """Goes all steps from a mark, in the order of their events, up to a coming that is refused."""
        stop = self.search.stops[mark.at]
        for name in stop.comings:
            slot, behind = stop.comings[name]
            need = mark.need + self.takes[slot]
            if self.takes[slot] > 0 and need > self.most:
                self.row = mark.trail.told_row() + (name,)
                return
            if (behind, need) not in self.found:
                self.add_mark(behind, need, mark.length + 1, mark.trail.with_coming(name, slot))
        new = {}
        for slot in stop.goings:
            pair = (stop.goings[slot], mark.need - self.gives[slot])
            if pair not in self.found:
                new[mark.trail.leaver(slot, self.search.guide.number_at(stop.state, slot))] = pair
        for number in sorted([int(number) for number in new]):
            behind, need = new[number]
            self.add_mark(behind, need, mark.length + 1, mark.trail.with_going(number))

    def add_mark(self, at, need, length, trail):
        """One more mark; the first one too many tells the gap."""
        if len(self.marks) < MOST_PAIRS:
            self.found[(at, need)] = True
            self.marks.append(Mark(at, need, length, trail))
        elif self.gap is None:
            self.gap = length
