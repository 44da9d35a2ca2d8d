"""Plain trying: rows, webs and needs as the document tells them, event by event, with nothing made ready."""

import random
from collections import Counter

from stayhouse.fittings import Greatest, Least, Order
from stayhouse.limits import Limit, YearLimit
from stayhouse.plans import Plan
from stayhouse.promises import Promise
from stayhouse.racks import Rack
from stayhouse.sites import Site
from stayhouse.stock import Stock
from stayhouse.wishes import Wish


def keeps(promise, standing, year):
    """Whether numbers of guests by wish keep all limits."""
    for limit in promise.limits:
        numbers = year if limit.YEARLY else standing
        if sum(limit.weights[name] * number for name, number in numbers.items()) > limit.bound:
            return False
    return True


def let_events(plan, row):
    """All events, in order, behind which a let row is let."""
    came = [event for event in row if isinstance(event, str)]
    there = [number for number in range(len(came)) if number not in row]
    told = []
    for name in sorted(plan.names):
        if keeps(plan.promise, Counter([came[number] for number in there] + [name]), Counter(came + [name])):
            told.append(name)
    return told + there


def let_rows(plan, most, keep=lambda row: True):
    """All let rows of at most so many events, shorter ones first, then event by event; those that are not kept do not go on."""
    level = [()]
    for length in range(most + 1):
        yield from level
        if length < most:
            level = [row + (event,) for row in level if keep(row) for event in let_events(plan, row)]


def first_pick(wish, free):
    """The site of the first pick of which more than keep bays are free."""
    for site, keep in wish.picks:
        if free[site] > keep:
            return site
    return None


def locker_of(plan, hall, nine, away, size):
    """What the fitting of a hall tells, beside the lockers that are away."""
    fitting = plan.fitting_of(hall) or Least()
    return fitting(Rack(*[nine[at] - away[at + 1] for at in range(9)]), size)


def play_places(plan, bays, row, hall=None, rack=None):
    """What places, and a hall, do with each event: (kind, wish, site, locker); None for what is refused."""
    came, there, told = [], [], []
    for event in row:
        if not isinstance(event, str):
            there.remove(event)
            name, site, locker = came[event]
            told.append(("go", name, site, locker))
            continue
        wish = plan[event]
        free = {name: bays.get(name, 0) - len([n for n in there if came[n][1] == name]) for name in plan_sites(plan)}
        site, locker = first_pick(wish, free), 0
        if site is not None and hall is not None and wish.size > 0 and plan.site_of(site).hall == hall:
            locker = locker_of(plan, hall, rack.nine, Counter(came[n][2] for n in there), wish.size)
        told.append(("come", event, site, locker))
        came.append((event, None, None) if site is None or locker is None else (event, site, locker))
        there.append(len(came) - 1)
    return told


def plan_sites(plan):
    """The names of all sites."""
    return [site.name for site in plan.sites]


def is_refused(told):
    """Whether somebody was refused."""
    return any(kind == "come" and (site is None or locker is None) for kind, _, site, locker in told)


def entries(counter):
    """The ascending tuple of keys, each with its number behind it."""
    return tuple(sorted(key + (number,) for key, number in counter.items() if number > 0))


def knot_of(plan, told):
    """The knot of places behind what was told of a row."""
    there, year = Counter(), Counter()
    for kind, name, site, _ in told:
        there[(name, site)] += 1 if kind == "come" else -1
        if kind == "come" and name in plan.counted:
            year[(name,)] += 1
    return entries(there), entries(year)


def things_of(told):
    """The things of a hall behind what was told of a row."""
    things = Counter()
    for kind, name, site, locker in told:
        if locker:
            things[(name, site, locker)] += 1 if kind == "come" else -1
    return entries(things)


def plain_web(plan, bays, most, hall=None, rack=None):
    """Of all rows of at most so many events: the dict from knots to their least rows, and the refused pairs."""
    taken = {(): []}
    knots, refused = {}, {}
    for row in let_rows(plan, most, lambda row: row in taken):
        told = play_places(plan, bays, row, hall, rack)
        if not is_refused(told):
            taken[row] = told
            knots.setdefault(web_knot(plan, told, hall), row)
        elif told[-1][2] is not None or hall is None:
            refused.setdefault((web_knot(plan, told[:-1], hall), row[-1]), row)
    return knots, refused


def web_knot(plan, told, hall):
    """The knot of places, or of the hall, behind what was told of a row."""
    knot = knot_of(plan, told)
    return knot if hall is None else (knot, things_of(told))


def gate_adds(plan, gate):
    """What each event adds to the need of a gate."""
    def adds(kind, name, site):
        wish = plan[name]
        if not wish.cart:
            return 0
        own = plan.site_of(site).gate
        if kind == "come":
            return 1 if own == gate else 0
        return -1 if (own if wish.back is None else wish.back) == gate else 0
    return adds


def line_adds(plan, i, j):
    """What each event adds to the need of an interval of lines."""
    def adds(kind, name, site):
        return plan[name].price if kind == "come" and i <= plan.site_of(site).line <= j else 0
    return adds


def plain_need(plan, bays, adds, most):
    """Of all rows of at most so many events, nobody being refused: the greatest need, and the least row that has it."""
    best, best_row = 0, ()
    heights = {}
    taken = {()}
    for row in let_rows(plan, most, lambda row: row in taken):
        told = play_places(plan, bays, row)
        if not is_refused(told):
            taken.add(row)
            need = sum(adds(kind, name, site) for kind, name, site, _ in told)
            knot = knot_of(plan, told)
            heights[knot] = max(need, heights.get(knot, need))
            if need > best:
                best, best_row = need, row
    return best, best_row, heights


def purse_wants(sums, spent):
    """The tuple X(0) to X(L) of the document."""
    wants = [0]
    for line in range(len(sums), 0, -1):
        wants.insert(0, max(0, spent[line - 1] + wants[0] - sums[line - 1]))
    return tuple(wants)


def purse_can(stock, spent):
    """Whether the purse can have paid so."""
    wants = purse_wants(stock.sums, spent)
    return wants[0] == 0 and all(wants[line + 1] <= stock.caps[line] for line in range(len(stock.caps)))


class PlainHouse:
    """The four parts of a house, told anew for each event out of all that was handed out."""

    def __init__(self, plan, stock):
        self.plan, self.stock = plan, stock
        self.guests = []
        self.there = []

    def free(self):
        return {site: self.stock.bays[site] - len([n for n in self.there if self.guests[n][1] == site])
                for site in plan_sites(self.plan)}

    def lockers(self, hall):
        away = Counter(self.guests[n][2] for n in self.there if self.plan.site_of(self.guests[n][1]).hall == hall)
        return [number - away[at + 1] for at, number in enumerate(self.stock.rack(hall).nine)]

    def carts(self):
        carts = {gate: self.stock.carts[gate] for gate in self.plan.gates}
        for number, (name, site, _, gate, _) in enumerate(self.guests):
            if gate is not None:
                carts[gate] -= 1
                if number not in self.there:
                    back = self.plan[name].back
                    carts[gate if back is None else back] += 1
        return carts

    def spent(self):
        spent = [0] * self.plan.lines
        for name, site, _, _, _ in self.guests:
            if site is not None:
                spent[self.plan.site_of(site).line - 1] += self.plan[name].price
        return tuple(spent)

    def come(self, name):
        """The tuple that he gets, or the word of the part that refuses him: then he holds nothing."""
        answer = self.asked(name)
        if isinstance(answer, str):
            self.guests.append((name, None, 0, None, None))
        else:
            self.guests.append((name,) + answer)
            self.there.append(len(self.guests) - 1)
        return answer

    def asked(self, name):
        wish = self.plan[name]
        site = first_pick(wish, self.free())
        if site is None:
            return "places"
        told = self.plan.site_of(site)
        locker = 0
        if wish.size > 0:
            locker = (self.plan.fitting_of(told.hall) or Least())(Rack(*self.lockers(told.hall)), wish.size)
        if locker is None:
            return "lockers"
        if wish.cart and self.carts()[told.gate] == 0:
            return "carts"
        spent = list(self.spent())
        spent[told.line - 1] += wish.price
        if not purse_can(self.stock, spent):
            return "purse"
        return site, locker, told.gate if wish.cart else None, told.line if wish.price > 0 else None

    def go(self, number):
        """What he held, None if he was refused."""
        if number not in self.there:
            return None
        self.there.remove(number)
        return self.guests[number][1:]

    def whole(self):
        things = Counter(self.guests[n][:3] for n in self.there)
        return tuple(sorted(things.items())), tuple(sorted(self.carts().items())), self.spent()


def some_limits(rng, names):
    """Limits at once of all names, and maybe some in a year."""
    limits = [Limit.of(rng.randint(1, 3), {name: rng.choice([1, 1, 2]) for name in names})]
    if rng.random() < 0.4:
        limits.append(Limit.of(rng.randint(0, 2), {rng.choice(names): 1}))
    for _ in range(rng.choice([0, 1, 1, 2])):
        limits.append(YearLimit.of(rng.randint(1, 4), {name: 1 for name in rng.sample(names, rng.randint(1, len(names)))}))
    return limits


def some_plan(rng):
    """A small plan of any kind."""
    names = rng.sample(["a", "b", "c"], rng.randint(1, 3))
    places = rng.sample(["near", "far", "mid"], rng.randint(1, 3))
    sites = [Site(name, rng.choice(["east", "west"]), rng.choice(["front", "back"]), rng.randint(1, 2)) for name in places]
    wishes = []
    for name in names:
        picks = [(site, rng.choice([0, 0, 0, 1])) for site in rng.sample(places, rng.randint(1, len(places)))]
        cart = rng.random() < 0.7
        back = rng.choice([None, "front", "back", "gone"]) if cart else None
        wishes.append(Wish(name, picks, rng.choice([0, 1, 1, 2, 3]), cart, back, rng.choice([0, 1, 2, 5])))
    fittings = {site.hall: rng.choice([Least(), Greatest(), Order({1: [2, 1], 2: [3], 3: [3]})]) for site in sites
                if rng.random() < 0.5}
    return Plan(wishes, sites, Promise(*some_limits(rng, names)), fittings)


def some_bays(rng, plan):
    """Bays for a small plan, few or many."""
    return {site: rng.randint(0, 3) for site in plan_sites(plan)}


def some_stock(rng, plan):
    """A stock for a small plan."""
    racks = {hall: [rng.randint(0, 2) for _ in range(3)] for hall in plan.halls}
    carts = {gate: rng.randint(0, 2) for gate in plan.gates}
    sums = [rng.randint(0, 12) for _ in range(plan.lines)]
    return Stock(some_bays(rng, plan), racks, carts, sums, [rng.randint(0, 6) for _ in range(plan.lines - 1)])


def some_row(rng, plan, many, let):
    """A row of so many events, or fewer; if let is set, a let one."""
    row = ()
    for _ in range(many):
        events = let_events(plan, row) if let else list(plan.names) + let_events(plan, row)
        events = [event for event in events if not isinstance(event, str)] + [event for event in events if isinstance(event, str)] * 2
        if not events:
            return row
        row += (rng.choice(events),)
    return row


def plans_and_bays(seed, many):
    """Small plans with bays, always the same ones for a seed."""
    rng = random.Random(seed)
    for _ in range(many):
        plan = some_plan(rng)
        yield plan, some_bays(rng, plan), rng


def plain_play(plan, stock, row):
    """What a plain house answers to each event of a row: what a coming guest gets, the word of the part that refuses him."""
    house = PlainHouse(plan, stock)
    return [house.come(event) if isinstance(event, str) else house.go(event) for event in row]


def plain_refusal(plan, stock, most, most_rows=4000):
    """The pair (row, part) of the least let row, of at most so many events, whose last one alone is refused; None without one.

    It goes over all let rows, up to too many rows; so many events the rows had that were all looked at.
    """
    level = [()]
    for length in range(most):
        following = []
        for row in level:
            for event in let_events(plan, row):
                behind = row + (event,)
                answer = plain_play(plan, stock, behind)[-1]
                if isinstance(answer, str):
                    return (behind, answer), length + 1
                following.append(behind)
        level = following
        if len(level) > most_rows:
            return None, length + 1
    return None, most
