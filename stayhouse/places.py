"""Places: who gets which bay, and whether anybody is refused in some let row."""

from stayhouse.counts import counts_in
from stayhouse.errors import BadHouse, NoWish, TooMany
from stayhouse.guides import Guide, bays_of, check_plan
from stayhouse.knots import MOST_TRIPLES, has_bool, is_held, is_knot, sums_of
from stayhouse.papers import Denial, Paper, lasting
from stayhouse.promises import greatest
from stayhouse.webs import Search

MOST_LOOKED = 250


class Housed(Paper):
    """Places refuse nobody in any let row: all knots that come about."""

    def __init__(self, knots):
        self.knots = lasting(knots)

    def kept(self):
        """What the paper keeps."""
        return (self.knots,)


class Crowded(Denial):
    """Places refuse the last guest of a let row."""

    def __init__(self, row):
        self.row = lasting(row)

    def kept(self):
        """What the paper keeps."""
        return (self.row,)


def is_told_held(value):
    """Whether any value is a held of any names, of at most 64 triples."""
    return isinstance(value, tuple) and len(value) <= MOST_TRIPLES and is_held(value) and not has_bool(value)


def check_held(held):
    """Raises unless any value is a held of at most 64 triples."""
    if not is_told_held(held):
        raise BadHouse("held")


def taken(held):
    """The Counts of the bays that a held takes, by site."""
    check_held(held)
    return counts_in(sums_of(held, 1))


def there(held):
    """The Counts of the guests of a held, by wish."""
    check_held(held)
    return counts_in(sums_of(held, 0))


def offer(plan, bays, held, wish):
    """The name of the site where a coming guest gets a bay; None if places refuse him."""
    told = bays_of(plan, bays)
    if not is_told_held(held) or not all([(name, site) in plan.pairs for name, site, _ in held]):
        raise BadHouse("held")
    if wish not in plan:
        raise NoWish(wish)
    away = sums_of(held, 1)
    for site, keep in plan[wish].picks:
        if told[site] - away.get(site, 0) > keep:
            return site
    return None


def enough(plan):
    """For each site so many bays that more of them change no offer in a let row."""
    check_plan(plan)
    return counts_in({site.name: enough_at(plan, site.name) for site in plan.sites})


def enough_at(plan, site):
    """So many bays of a site that more of them change no offer in a let row."""
    keeps = {wish.name: wish.keep_at(site) for wish in plan.wishes if (wish.name, site) in plan.pairs}
    if not keeps:
        return 0
    guests, _ = greatest(plan.promise, counts_in({name: 1 for name in keeps}))
    return guests + max([int(keeps[name]) for name in keeps])


def place_search(plan, bays):
    """The Search of places alone; raises as PlaceWeb."""
    told = bays_of(plan, bays)
    return Search(Guide(plan, told, None))


def held_at(search, stop):
    """The held of the knot of a stop."""
    numbers = {}
    for slot, many in search.slots_at(stop):
        name, site, _ = search.guide.triples[slot]
        numbers[(name, site)] = numbers.get((name, site), 0) + many
    return tuple([(name, site, numbers[(name, site)]) for name, site in numbers])


def knot_at(search, stop):
    """The knot of places of a stop."""
    return held_at(search, stop), search.year_at(stop)


def crowded_at(search):
    """The list of the pairs (index of a stop, wish) of all comings that places refuse."""
    return [(at, name) for at, stop in enumerate(search.stops) for name in stop.crowded]


class PlaceWeb:
    """The web of places: all knots that come about while places refuse nobody."""

    def __init__(self, plan, bays):
        search = place_search(plan, bays)
        knots = tuple([knot_at(search, stop) for stop in search.stops])
        self.search = search
        self.knots = knots
        self.numbers = {knot: at for at, knot in enumerate(knots)}
        self.barred = tuple([(knots[at], name) for at, name in crowded_at(search)])

    def __len__(self):
        return len(self.knots)

    def __iter__(self):
        return iter(self.knots)

    def __contains__(self, value):
        return is_knot(value) and not has_bool(value) and value in self.numbers

    def steps(self, knot):
        """The tuple of all steps from a knot: (kind, wish, site, knot behind)."""
        stop = self.stop_at(knot)
        triples = self.search.guide.triples
        links = self.search.links(stop)
        return tuple([(kind, triples[slot][0], triples[slot][1], self.knots[at]) for kind, slot, at in links])

    def row_to(self, knot):
        """The least let row that leads to a knot."""
        return self.stop_at(knot).trail.told_row()

    def stop_at(self, knot):
        """The stop of a knot."""
        if knot not in self:
            raise BadHouse("knot")
        return self.search.stops[self.numbers[knot]]

    @property
    def refused(self):
        """The pairs (knot, wish) of all let comings that places refuse."""
        return self.barred

    def __bool__(self):
        return not self.barred

    def refusal(self):
        """The least let row whose last event is a coming that places refuse; None if there is none."""
        if not self.barred:
            return None
        knot, name = self.barred[0]
        return self.row_to(knot) + (name,)


def judged_places(plan, bays):
    """A Housed if places refuse nobody in any let row, a Crowded otherwise."""
    web = PlaceWeb(plan, bays)
    if web:
        return Housed(tuple(web))
    return Crowded(web.refusal())


def numbers_below(tops):
    """All tuples of numbers from 0 to these, ascending."""
    found = [()]
    for top in tops:
        found = [numbers + (number,) for numbers in found for number in range(top + 1)]
    return found


def how_many_below(tops):
    """How many tuples of numbers from 0 to these there are."""
    many = 1
    for top in tops:
        many = many * (top + 1)
    return many


def least_bays(plan):
    """All least Counts of bays with which places refuse nobody in any let row."""
    most = enough(plan)
    names = [site.name for site in plan.sites]
    tops = [most[name] for name in names]
    if how_many_below(tops) > MOST_LOOKED:
        raise TooMany("bays", MOST_LOOKED)
    found = []
    for numbers in numbers_below(tops):
        bays = counts_in({name: number for name, number in zip(names, numbers)})
        # More bays never hurt places: what is at least a found one is not looked at.
        if not any([less <= bays for less in found]) and not crowded_at(place_search(plan, bays)):
            found.append(bays)
    return tuple(found)
