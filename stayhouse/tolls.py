"""Tolls: what comings and goings add to the need of a gate, or of an interval of lines."""

from stayhouse.carts import back_of, gate_for
from stayhouse.checks import is_within
from stayhouse.errors import BadNumber, NoGate
from stayhouse.guides import bays_of


class Toll:
    """What a coming adds to a need, and what a going takes off it, by wish and site."""

    def __init__(self, takes, gives):
        self.takes = takes
        self.gives = gives

    def added(self, kind, name, site):
        """What a step adds to the need."""
        return self.takes[(name, site)] if kind == "come" else -self.gives[(name, site)]


def gate_toll(plan, gate):
    """The Toll of a gate."""
    takes = {(name, site): one_if(gate_for(plan, name, site) == gate) for name, site in plan.pairs}
    gives = {(name, site): one_if(back_of(plan, name, site) == gate) for name, site in plan.pairs}
    return Toll(takes, gives)


def one_if(holds):
    """1 for what holds, 0 otherwise."""
    return 1 if holds else 0


def line_toll(plan, i, j):
    """The Toll of the lines from i to j."""
    paid = {site.name: i <= site.line <= j for site in plan.sites}
    takes = {(name, site): plan[name].price if paid[site] else 0 for name, site in plan.pairs}
    return Toll(takes, {pair: 0 for pair in plan.pairs})


def check_gate(plan, gate):
    """Raises unless any value is a gate of a plan."""
    if gate not in plan.gates:
        raise NoGate(gate)


def check_lines(plan, i, j):
    """Raises unless any values are lines of a plan, the second one from the first one on."""
    if not is_within(i, 1, plan.lines):
        raise BadNumber(i)
    if not is_within(j, i, plan.lines):
        raise BadNumber(j)


def gate_bays(plan, bays, gate):
    """The Counts of told bays; raises for any values that are no plan, no bays, no gate."""
    told = bays_of(plan, bays)
    check_gate(plan, gate)
    return told


def line_bays(plan, bays, i, j):
    """The Counts of told bays; raises for any values that are no plan, no bays, no interval of lines."""
    told = bays_of(plan, bays)
    check_lines(plan, i, j)
    return told
