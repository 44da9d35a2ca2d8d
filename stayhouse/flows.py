"""Flows: how let stays lie over the days of a calendar, and how they could lie otherwise.

The days are counted from the calendar's first one on. On each day as many more stays must begin than end as its
supply tells. What comes free on a day is led on by stays that are put there, and led back by stays that are taken
away: so a *way* is a list of days, each step of it ahead along a let stay, or back along one that lies there.
A number tells a set of days by its bits.
"""

from stayhouse.books import row_of


class Flow:
    """How many stays lie from day to day; it changes."""

    def __init__(self, ends):
        # For each day the bits of the days on which let stays from it end.
        self.ends = ends
        # How many stays lie, by first day and day after; for each day the bits of the days from which some lie.
        self.amounts = {}
        self.begins = [0] * len(ends)

    def copied(self):
        """A Flow that is the same, and changes on its own."""
        flow = Flow(self.ends)
        flow.amounts = {pair: self.amounts[pair] for pair in self.amounts}
        flow.begins = list(self.begins)
        return flow

    def lay(self, begin, end, more):
        """So many more stays lie from one day to another one."""
        many = self.amounts.get((begin, end), 0) + more
        bit = 1 << begin
        if many > 0:
            self.amounts[(begin, end)] = many
            self.begins[end] = self.begins[end] | bit
        else:
            del self.amounts[(begin, end)]
            self.begins[end] = self.begins[end] & ~bit

    def reached(self, day):
        """The bits of all days to which ways lead from a day."""
        seen = 1 << day
        waiting = [day]
        while waiting:
            at = waiting.pop()
            new = (self.ends[at] | self.begins[at]) & ~seen
            seen = seen | new
            waiting.extend(days_of(new))
        return seen

    def way(self, day, goals):
        """A shortest way from a day to one of the days whose bits are told; None without one."""
        ahead = {day: None}
        seen = 1 << day
        waiting = [day]
        turn = 0
        while turn < len(waiting):
            at = waiting[turn]
            if (goals >> at) & 1:
                return way_to(ahead, at)
            new = (self.ends[at] | self.begins[at]) & ~seen
            seen = seen | new
            for other in days_of(new):
                ahead[other] = at
                waiting.append(other)
            turn += 1
        return None

    def most_along(self, way, most):
        """How much can be led along a way, if most is to be led: as many stays lie on each step back."""
        for one, other in zip(way, way[1:]):
            if other < one:
                most = min(int(most), int(self.amounts[(other, one)]))
        return most

    def lead(self, way, many):
        """Leads so much along a way."""
        for one, other in zip(way, way[1:]):
            if other > one:
                self.lay(one, other, many)
            else:
                self.lay(other, one, -many)


def way_to(ahead, day):
    """The way to a day; the day ahead of each day is told, None for the first one."""
    way = []
    while day is not None:
        way.append(day)
        day = ahead[day]
    return way[::-1]


def days_of(bits):
    """The ascending list of the days whose bits are told."""
    found = []
    while bits:
        low = bits & -bits
        found.append(low.bit_length() - 1)
        bits = bits ^ low
    return found


def bits_of(days):
    """The bits of a list of days."""
    bits = 0
    for day in days:
        bits = bits | (1 << day)
    return bits


def ends_within(book, first, after):
    """For each day, from a first to a last one, the bits of the days within on which let stays from it end."""
    last = after - first
    ends = []
    for at in range(last + 1):
        nights_let = row_of(book, first + at)
        ends.append(bits_of([at + nights for nights in nights_let if at + nights <= last]))
    return ends


def filled(calendar, book):
    """The Flow that fills the free nights of a calendar with let stays, and 0; otherwise the bits of the days of a bar.

    What is left of a supply on a day is led to days that lack something. Where no way leads to such a day, none
    leads out of the days that are come to, no stay leads into them, and together they have more than they lack.
    """
    flow = Flow(ends_within(book, calendar.first, calendar.after))
    left = [calendar.supply(calendar.first + at) for at in range(len(flow.ends))]
    goals = bits_of([at for at, more in enumerate(left) if more < 0])
    for day in range(len(left)):
        while left[day] > 0:
            way = flow.way(day, goals)
            if way is None:
                return flow, flow.reached(day)
            end = way[-1]
            many = flow.most_along(way, min(int(left[day]), int(-left[end])))
            flow.lead(way, many)
            left[day] -= many
            left[end] += many
            if left[end] == 0:
                goals = goals & ~(1 << end)
    return flow, 0
