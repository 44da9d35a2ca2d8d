"""Two houses beside each other, plainly: rows that are played in both, and the doubles behind them."""

from collections import Counter

from plain import PlainHouse, let_events, some_plan, some_stock

from stayhouse.house import House
from stayhouse.plans import Plan
from stayhouse.wishes import Wish


class Both:
    """A row that is played in two plain houses."""

    def __init__(self, one, other, row):
        self.houses = [PlainHouse(house.plan, house.stock) for house in (one, other)]
        self.plan = one.plan
        self.row = row
        self.answers = []
        for event in row:
            told = [house.come(event) if isinstance(event, str) else house.go(event) for house in self.houses]
            self.answers.append(tuple(told))

    def taken(self):
        """Whether each of both took the last one, who came."""
        return tuple(not isinstance(answer, str) for answer in self.answers[-1])

    def double(self):
        """The double behind the row."""
        came = [event for event in self.row if isinstance(event, str)]
        there = [number for number in range(len(came)) if number not in self.row]
        kinds = Counter((came[number],) + tuple(self.holds(house, number) for house in self.houses) for number in there)
        guests = tuple(sorted(kinds.items(), key=lambda pair: kind_text(pair[0])))
        year = Counter(name for name in came if name in self.plan.counted)
        return guests, tuple(sorted(year.items())), self.houses[0].whole(), self.houses[1].whole()

    def holds(self, house, number):
        """What a guest holds in one house."""
        _, site, locker, _, _ = house.guests[number]
        return None if site is None else (site, locker)


def kind_text(kind):
    """The text of a guest kind."""
    return " ".join([kind[0]] + ["-" if holds is None else f"{holds[0]} {holds[1]}" for holds in kind[1:]])


def alike_parts(taken):
    """Whether a coming parts two houses that should answer alike."""
    return taken[0] != taken[1]


def never_parts(taken):
    """Whether one refuses whom other takes."""
    return taken == (False, True)


def plain_contest(one, other, parts, most, once=True):
    """Of all let rows of at most so many events: the doubles, in order, and the first row that parts, with who takes.

    If once is set, a row to a double that another row came to does not go on. The last result is False where rows were left out.
    """
    doubles = {Both(one, other, ()).double(): ()}
    level = [()]
    for _ in range(most):
        following = []
        for row in level:
            for event in let_events(one.plan, row):
                both = Both(one, other, row + (event,))
                if isinstance(event, str) and parts(both.taken()):
                    return list(doubles), (both.row, both.taken()), True
                double = both.double()
                if double not in doubles or not once:
                    doubles.setdefault(double, both.row)
                    following.append(both.row)
        level = following
    return list(doubles), None, not level


def houses_beside(rng):
    """Two small houses whose plans have the same names and promise; all else may be unlike."""
    plan = some_plan(rng)
    one = House(plan, some_stock(rng, plan))
    if rng.random() < 0.5:
        other = House(plan, changed_stock(rng, plan, one.stock))
    else:
        other_plan = some_other_plan(rng, plan)
        other = House(other_plan, some_stock(rng, other_plan))
    return one, other


def some_other_plan(rng, plan):
    """A plan with wishes of the same names and the same promise."""
    told = some_plan(rng)
    sites = [site.name for site in told.sites]
    wishes = []
    for name in rng.sample(list(plan.names), len(plan.names)):
        picks = [(site, rng.choice([0, 0, 1])) for site in rng.sample(sites, rng.randint(1, len(sites)))]
        wishes.append(Wish(name, picks, rng.choice([0, 1, 2]), rng.random() < 0.5, None, rng.choice([0, 1])))
    return Plan(wishes, told.sites, plan.promise, dict(told.fittings))


def changed_stock(rng, plan, stock):
    """A stock with a little more or less of some things."""
    bays = {site.name: max(0, stock.bays[site.name] + rng.choice([0, 0, 1, -1])) for site in plan.sites}
    racks = {hall: [max(0, many + rng.choice([0, 0, 0, 1, -1])) for many in stock.rack(hall).nine] for hall in plan.halls}
    carts = {gate: max(0, stock.carts[gate] + rng.choice([0, 0, 1, -1])) for gate in plan.gates}
    sums = [max(0, amount + rng.choice([0, 0, 2, -2])) for amount in stock.sums]
    return type(stock)(bays, racks, carts, sums, stock.caps)
