"""Looks at told judgements, without a search for them."""

from stayhouse.cart_needs import CartNeed
from stayhouse.guides import Hall
from stayhouse.judge import Safe, Unsafe
from stayhouse.line_needs import LineNeed, intervals
from stayhouse.lines import Lines
from stayhouse.lockers import Fits
from stayhouse.look_lockers import shows_fits
from stayhouse.look_needs import shows_need_told
from stayhouse.look_places import shows_housed
from stayhouse.looks import Look, is_let_row
from stayhouse.parts import check_stock
from stayhouse.places import Housed
from stayhouse.plays import Play
from stayhouse.tolls import gate_toll, line_toll

MOST_EVENTS = 500


def shows_judge(plan, stock, value):
    """Whether any value is a right Safe or a right Unsafe."""
    check_stock(plan, stock)
    if isinstance(value, Safe):
        return shows_safe(plan, stock, value)
    return isinstance(value, Unsafe) and shows_unsafe(plan, stock, value)


def shows_unsafe(plan, stock, paper):
    """Whether an Unsafe of any values tells a let row whose last event alone is refused, by the part that it tells."""
    row = paper.row
    # The length comes first: a long row needs no look at its events.
    if not isinstance(row, tuple) or not 1 <= len(row) <= MOST_EVENTS or not is_let_row(plan, row):
        return False
    answers = Play(plan, stock, row).answers
    if any([isinstance(answer, str) for answer in answers[:-1]]):
        return False
    return isinstance(answers[-1], str) and answers[-1] == paper.part


def shows_safe(plan, stock, paper):
    """Whether a Safe of any values is right in all its parts."""
    look = Look(plan, stock.bays, None)
    if not isinstance(paper.places, Housed) or not shows_housed(look, paper.places.knots):
        return False
    if not has_keys(paper.lockers, plan.halls):
        return False
    if not all([shows_hall_told(plan, stock, hall, paper.lockers[hall]) for hall in plan.halls]):
        return False
    return shows_carts(plan, stock, look, paper.carts) and shows_sums(plan, stock, look, paper.sums)


def has_keys(value, told):
    """Whether any value is a dict with just the told keys."""
    return isinstance(value, dict) and len(value) == len(told) and all([key in value for key in told])


def shows_hall_told(plan, stock, hall, paper):
    """Whether any value is a right Fits of a hall."""
    look = Look(plan, stock.bays, Hall(plan, hall, stock.rack(hall)))
    return isinstance(paper, Fits) and shows_fits(look, paper.knots)


def shows_carts(plan, stock, look, told):
    """Whether any value has a right CartNeed of each gate, none above the carts there."""
    if not has_keys(told, plan.gates) or not all([isinstance(told[gate], CartNeed) for gate in plan.gates]):
        return False
    if not all([shows_need_told(plan, look, gate_toll(plan, gate), told[gate]) for gate in plan.gates]):
        return False
    return all([told[gate].number <= stock.carts[gate] for gate in plan.gates])


def shows_sums(plan, stock, look, told):
    """Whether any value has a right LineNeed of each interval of lines, none above what it reaches."""
    pairs = intervals(plan)
    if not has_keys(told, pairs) or not all([isinstance(told[pair], LineNeed) for pair in pairs]):
        return False
    if not all([shows_need_told(plan, look, line_toll(plan, i, j), told[(i, j)]) for i, j in pairs]):
        return False
    chain = Lines(stock.sums, stock.caps)
    return all([told[(i, j)].number <= chain.reach(i, j) for i, j in pairs])
