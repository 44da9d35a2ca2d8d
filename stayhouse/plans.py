"""Plans: the wishes, the sites, the fittings and the promise of a house."""

from stayhouse.checks import is_name, is_sequence, is_within
from stayhouse.errors import BadPlan, NoHall, NoSite, NoWish, Unbounded
from stayhouse.fittings import Fitting
from stayhouse.promises import Promise, limits_that, weighed_names
from stayhouse.sites import MOST_LINES, Site
from stayhouse.wishes import Wish

MOST_WISHES = 8
MOST_SITES = 8


def are_wishes(wishes):
    """Whether any value is a list or tuple of 1 to 8 Wishes of unlike names."""
    if not is_sequence(wishes) or not 1 <= len(wishes) <= MOST_WISHES:
        return False
    return all([isinstance(wish, Wish) for wish in wishes]) and are_unlike([wish.name for wish in wishes])


def are_sites(sites):
    """Whether any value is a list or tuple of 1 to 8 Sites of unlike names."""
    if not is_sequence(sites) or not 1 <= len(sites) <= MOST_SITES:
        return False
    return all([isinstance(site, Site) for site in sites]) and are_unlike([site.name for site in sites])


def are_unlike(names):
    """Whether no name of a list stands there twice."""
    return len(set(names)) == len(names)


def are_fittings(fittings):
    """Whether any value is None or a dict from names to Fittings."""
    if fittings is None:
        return True
    if not isinstance(fittings, dict):
        return False
    return all([is_name(hall) and isinstance(fittings[hall], Fitting) for hall in fittings])


def check_parts(wishes, sites, promise, fittings, lines):
    """Raises for the first part of a plan that is of a wrong kind."""
    if not are_wishes(wishes):
        raise BadPlan("wishes")
    if not are_sites(sites):
        raise BadPlan("sites")
    if not isinstance(promise, Promise):
        raise BadPlan("promise")
    if not are_fittings(fittings):
        raise BadPlan("fittings")
    if lines is not None and not is_within(lines, greatest_line(sites), MOST_LINES):
        raise BadPlan("lines")


def check_names(wishes, sites, promise, fittings):
    """Raises for the first name that one part of a plan tells and another one lacks."""
    names = [site.name for site in sites]
    for wish in wishes:
        for site, _ in wish.picks:
            if site not in names:
                raise NoSite(site)
    halls = [site.hall for site in sites]
    for hall in fittings:
        if hall not in halls:
            raise NoHall(hall)
    names = [wish.name for wish in wishes]
    for name in weighed_names(promise.limits):
        if name not in names:
            raise NoWish(name)
    for name in names:
        if name not in promise.wishes:
            raise Unbounded("promise")


def greatest_line(sites):
    """The greatest line of the sites."""
    return max([int(site.line) for site in sites])


def ascending(names):
    """The ascending tuple of the names of a list, each of them once."""
    return tuple(sorted(set(names)))


class Plan:
    """What a house takes guests by."""

    def __init__(self, wishes, sites, promise, fittings=None, lines=None):
        check_parts(wishes, sites, promise, fittings, lines)
        told = {} if fittings is None else fittings
        check_names(wishes, sites, promise, told)
        by_name = {site.name: site for site in sites}
        yearly = weighed_names(limits_that(promise.limits, True))
        backs = [wish.back for wish in wishes if wish.back is not None]
        self.wishes = tuple(wishes)
        self.sites = tuple([by_name[name] for name in ascending(list(by_name))])
        self.promise = promise
        self.lines = greatest_line(sites) if lines is None else lines
        self.names = tuple([wish.name for wish in wishes])
        self.halls = ascending([site.hall for site in sites])
        self.gates = ascending([site.gate for site in sites] + backs)
        self.counted = tuple([name for name in self.names if name in yearly])
        self.pairs = ascending([(wish.name, site) for wish in wishes for site, _ in wish.picks])
        self.fittings = tuple([(hall, told[hall]) for hall in ascending(list(told))])

    def __getitem__(self, name):
        for wish in self.wishes:
            if wish.name == name:
                return wish
        raise NoWish(name)

    def __contains__(self, value):
        return isinstance(value, str) and value in self.names

    def __len__(self):
        return len(self.names)

    def __iter__(self):
        return iter(self.names)

    def site_of(self, name):
        """The Site of a name."""
        for site in self.sites:
            if site.name == name:
                return site
        raise NoSite(name)

    def fitting_of(self, hall):
        """The Fitting that was told for a hall; None if none was."""
        if not isinstance(hall, str) or hall not in self.halls:
            raise NoHall(hall)
        for name, fitting in self.fittings:
            if name == hall:
                return fitting
        return None

    def with_wish(self, wish):
        """The Plan with a wish in the place of that of its name."""
        if not isinstance(wish, Wish):
            raise BadPlan("wishes")
        if wish.name not in self.names:
            raise NoWish(wish.name)
        wishes = [wish if old.name == wish.name else old for old in self.wishes]
        return Plan(wishes, self.sites, self.promise, dict_of(self.fittings), self.lines)

    def with_site(self, site):
        """The Plan with a site in the place of that of its name, or with one more."""
        if not isinstance(site, Site):
            raise BadPlan("sites")
        sites = [old for old in self.sites if old.name != site.name]
        return Plan(self.wishes, [*sites, site], self.promise, dict_of(self.fittings), self.lines)

    def with_promise(self, promise):
        """The Plan with another promise."""
        return Plan(self.wishes, self.sites, promise, dict_of(self.fittings), self.lines)

    def with_fitting(self, hall, fitting):
        """The Plan with another fitting for a hall."""
        # Not every value can be the key of a dict: so the hall is looked at here.
        if not is_name(hall):
            raise BadPlan("fittings")
        fittings = dict_of(self.fittings)
        fittings[hall] = fitting
        return Plan(self.wishes, self.sites, self.promise, fittings, self.lines)

    def __eq__(self, other):
        return isinstance(other, Plan) and plan_parts(self) == plan_parts(other)


def dict_of(pairs):
    """The dict with these pairs."""
    return {key: value for key, value in pairs}


def plan_parts(plan):
    """What makes plans equal."""
    return plan.wishes, plan.sites, plan.promise, plan.lines, plan.fittings
