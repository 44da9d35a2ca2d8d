"""Needs: how much some let row wants in all, the heights that show it, and the least row.

A coming adds to a need, a going takes off it again. What is taken off is looked at as lent: the *lent* of
a knot is what those who are there will give back. Counted so, a coming adds its *worth*, what it takes less
what will be given back, a going nothing, and the need at a knot is the worth of the row and the lent.

Years never become less. So the knots stand in *levels*, by how many came of counted wishes: the comings of
counted wishes lead to the next level, all other steps stay in theirs. If in a level a coming is worth more
than 0, he can come and go there without end; otherwise there is an end to the need.
"""

from stayhouse.errors import NoBay
from stayhouse.places import knot_at
from stayhouse.trails import no_trail


class Lanes:
    """The steps of a search, as they are for all needs: the pairs (index of the stop behind, slot), -1 for a going."""

    def __init__(self, search):
        counted = search.guide.counted
        inner = [[] for _ in search.stops]
        outer = [[] for _ in search.stops]
        for at, stop in enumerate(search.stops):
            for name in stop.comings:
                slot, behind = stop.comings[name]
                table = outer if name in counted else inner
                table[at].append((behind, slot))
            for slot in stop.goings:
                inner[at].append((stop.goings[slot], -1))
        self.levels = levels_of(search.stops)
        # The steps within levels, those to the next one, and the first ones the other way round.
        self.inner = inner
        self.outer = outer
        self.back = turned(inner)


def lanes_of(search):
    """The Lanes of a search, made once."""
    if search.lanes is None:
        search.lanes = Lanes(search)
    return search.lanes


class Ways:
    """The steps of a search, each with its worth: that of the comings by slot, and 0 for the goings behind them."""

    def __init__(self, search, toll):
        triples = search.guide.triples
        gives = [toll.gives[(name, site)] for name, site, _ in triples]
        self.search = search
        self.worth = [toll.takes[(name, site)] - toll.gives[(name, site)] for name, site, _ in triples] + [0]
        self.lent = lent_at(search, gives)
        self.lanes = lanes_of(search)

    def endless(self):
        """The pair (index of a stop, wish) of a coming that can be gone and given back without end; None without."""
        counted = self.search.guide.counted
        for at, stop in enumerate(self.search.stops):
            for name in stop.comings:
                if name not in counted and self.worth[stop.comings[name][0]] > 0:
                    return at, name
        return None

    def greatest_needs(self):
        """The greatest need at each knot over all rows that lead to it."""
        worth = [None] * len(self.lent)
        worth[0] = 0
        for level in self.lanes.levels:
            settle(worth, level, self.lanes.inner, self.worth)
            for at in level:
                for behind, slot in self.lanes.outer[at]:
                    more = worth[at] + self.worth[slot]
                    if worth[behind] is None or more > worth[behind]:
                        worth[behind] = more
        return [more + lent for more, lent in zip(worth, self.lent)]

    def prospects(self):
        """The greatest sum, over all rows that go on from each knot, of their worth and the lent behind them."""
        worth = list(self.lent)
        for level in self.lanes.levels[::-1]:
            for at in level:
                for behind, slot in self.lanes.outer[at]:
                    worth[at] = max(int(worth[at]), int(worth[behind] + self.worth[slot]))
            settle(worth, level, self.lanes.back, self.worth)
        return worth

    def least_row(self):
        """The least row behind which the need is the greatest one.

        Such a row never loses anything: at each of its steps the best prospect becomes less by just its worth.
        Each row of such steps has at a knot the same worth. So the first knot that has nothing better
        to expect than what is lent there is come to by the least row.
        """
        prospects = self.prospects()
        trails = {0: no_trail()}
        waiting = [0]
        turn = 0
        while prospects[waiting[turn]] > self.lent[waiting[turn]]:
            waiting.extend(self.follow(waiting[turn], prospects, trails))
            turn += 1
        return trails[waiting[turn]].told_row()

    def follow(self, at, prospects, trails):
        """The knots that steps without a loss lead to from one, for the first time, in the order of their events."""
        stop = self.search.stops[at]
        trail = trails[at]
        new = []
        for name in stop.comings:
            slot, behind = stop.comings[name]
            if behind not in trails and prospects[at] == self.worth[slot] + prospects[behind]:
                trails[behind] = trail.with_coming(name, slot)
                new.append(behind)
        leavers = {}
        for slot in stop.goings:
            behind = stop.goings[slot]
            if behind not in trails and prospects[at] == prospects[behind]:
                leavers[trail.leaver(slot, self.search.guide.number_at(stop.state, slot))] = behind
        for number in sorted([int(number) for number in leavers]):
            trails[leavers[number]] = trail.with_going(number)
            new.append(leavers[number])
        return new


def lent_at(search, gives):
    """The list of what those who are there will give back, for each stop; what each slot gives is told."""
    guide = search.guide
    givers = [slot for slot, more in enumerate(gives) if more > 0]
    return [sum([gives[slot] * guide.number_at(stop.state, slot) for slot in givers]) for stop in search.stops]


def levels_of(stops):
    """The lists of the indexes of the stops of each level, ascending."""
    levels = []
    for at, stop in enumerate(stops):
        # A level is come to from the one below it: it can lack just behind the last one.
        while len(levels) <= stop.level:
            levels.append([])
        levels[stop.level].append(at)
    return levels


def turned(links):
    """The links the other way round."""
    back = [[] for _ in links]
    for at, told in enumerate(links):
        for behind, slot in told:
            back[behind].append((at, slot))
    return back


def settle(worth, level, links, gains):
    """Raises the worth of the knots of a level to what its links bring from others; none of them gains more than 0."""
    by_worth = {}
    for at in level:
        if worth[at] is not None:
            by_worth.setdefault(worth[at], []).append(at)
    waiting = []
    # The last one is taken first: from the greatest on, hardly a knot is raised twice.
    for told in sorted([int(known) for known in by_worth]):
        waiting.extend(by_worth[told])
    while waiting:
        at = waiting.pop()
        for behind, slot in links[at]:
            more = worth[at] + gains[slot]
            if worth[behind] is None or more > worth[behind]:
                worth[behind] = more
                waiting.append(behind)


def check_taken(plan, search):
    """Raises if places refuse somebody, for the first such wish in the order of the plan."""
    refused = {name: True for stop in search.stops for name in stop.crowded}
    for name in plan.names:
        if name in refused:
            raise NoBay(name)


def ring_told(search, endless):
    """A row to a knot, and the ring of a coming there that goes at once."""
    at, name = endless
    stop = search.stops[at]
    slot, behind = stop.comings[name]
    site = search.guide.triples[slot][1]
    ring = (("come", name, site, knot_at(search, search.stops[behind])), ("go", name, site, knot_at(search, stop)))
    return stop.trail.told_row(), ring


def need_told(search, ways):
    """The greatest need, the dict of the least heights of all knots, and the least row that has the need."""
    return need_with(ways, [knot_at(search, stop) for stop in search.stops])


def need_with(ways, knots):
    """The same, the knots of all stops being told."""
    heights = ways.greatest_needs()
    table = {knot: height for knot, height in zip(knots, heights)}
    return max([int(height) for height in heights]), table, ways.least_row()
