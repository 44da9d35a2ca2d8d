"""Carts: where guests take them, and where they give them back."""

from stayhouse.counts import Counts, counts_in
from stayhouse.errors import BadStock, NoSite, NoWish, Refused
from stayhouse.guides import check_plan


def check_both(plan, wish, site):
    """Raises unless any values are the names of a wish and of a site of a plan."""
    if wish not in plan:
        raise NoWish(wish)
    if site not in [known.name for known in plan.sites]:
        raise NoSite(site)


def check_carts(plan, carts):
    """Raises unless any values are a Plan and a Counts."""
    check_plan(plan)
    if not isinstance(carts, Counts):
        raise BadStock("carts")


def gate_for(plan, wish, site):
    """The gate where a guest of a wish with a bay of a site takes a cart; None if he wants none."""
    check_plan(plan)
    check_both(plan, wish, site)
    return plan.site_of(site).gate if plan[wish].cart else None


def back_of(plan, wish, site):
    """The gate to which his cart comes when he goes; None if he has none."""
    gate = gate_for(plan, wish, site)
    told = plan[wish].back
    return gate if told is None else told


def take(plan, carts, wish, site):
    """The carts behind a coming."""
    check_carts(plan, carts)
    gate = gate_for(plan, wish, site)
    if gate is None:
        return carts
    if carts[gate] == 0:
        raise Refused("carts", wish)
    return carts - counts_in({gate: 1})


def give(plan, carts, wish, site):
    """The carts behind a going."""
    check_carts(plan, carts)
    gate = back_of(plan, wish, site)
    return carts if gate is None else carts + counts_in({gate: 1})
