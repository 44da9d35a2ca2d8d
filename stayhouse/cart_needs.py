"""Needs of gates: how many carts let rows need there."""

from stayhouse.counts import counts_in
from stayhouse.guides import Guide, check_plan
from stayhouse.needs import Ways, check_taken, need_told, ring_told
from stayhouse.papers import Denial, Paper, lasting
from stayhouse.promises import greatest
from stayhouse.tolls import check_gate, gate_bays, gate_toll
from stayhouse.webs import Search


class CartNeed(Paper):
    """The greatest need of a gate, heights that show it, and a row that has it."""

    def __init__(self, number, heights, row):
        self.number = lasting(number)
        self.heights = lasting(heights)
        self.row = lasting(row)

    def kept(self):
        """What the paper keeps."""
        return self.number, self.heights, self.row


class CartRing(Denial):
    """There is no end to the need of a gate: a row to a knot, and steps from it to itself that need more."""

    def __init__(self, row, ring):
        self.row = lasting(row)
        self.ring = lasting(ring)

    def kept(self):
        """What the paper keeps."""
        return self.row, self.ring


def need_of(plan, bays, gate):
    """The CartNeed of a gate; a CartRing if there is no end to it."""
    search = Search(Guide(plan, gate_bays(plan, bays, gate), None))
    check_taken(plan, search)
    ways = Ways(search, gate_toll(plan, gate))
    endless = ways.endless()
    if endless is not None:
        row, ring = ring_told(search, endless)
        return CartRing(row, ring)
    number, heights, row = need_told(search, ways)
    return CartNeed(number, heights, row)


def own_need(plan, gate):
    """The greatest need of a gate if each guest may get a bay of any site of his picks; None without an end."""
    check_plan(plan)
    check_gate(plan, gate)
    toll = gate_toll(plan, gate)
    # Those who can leave a cart behind elsewhere count once for all, others who take one here while they are there.
    once = []
    there = []
    for name in plan.promise.comers:
        pairs = [pair for pair in plan.pairs if pair[0] == name]
        if any([toll.takes[pair] > toll.gives[pair] for pair in pairs]):
            once.append(name)
        elif any([toll.takes[pair] > 0 for pair in pairs]):
            there.append(name)
    if not all([name in plan.counted for name in once]):
        return None
    return most_of_both(plan, once, there)


def most_of_both(plan, once, there):
    """The greatest number of guests of some wishes in a year and of other ones in a standing, of one let row."""
    yearly = [name for name in there if name in plan.counted]
    most = {}
    for standing in plan.promise.standings():
        if all([name in there for name in standing.names]):
            key = tuple([standing[name] for name in yearly])
            most[key] = max(standing.total, int(most.get(key, 0)))
    best = 0
    for year in plan.promise.years():
        key = tuple([year[name] for name in yearly])
        # Those who are there at last came in this year, too, and nobody else of their wishes.
        if key in most:
            best = max(int(best), most[key] + sum([year[name] for name in once]))
    return best


def most_out(plan):
    """The greatest number of guests who want a cart in a standing that comes about."""
    check_plan(plan)
    guests, _ = greatest(plan.promise, counts_in({wish.name: 1 for wish in plan.wishes if wish.cart}))
    return guests
