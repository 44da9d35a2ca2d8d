"""Looks at told needs of gates and of lines, without a search for them."""

from stayhouse.checks import is_amount, is_integer
from stayhouse.knots import BEGIN
from stayhouse.looks import is_let_row, walked


def shows_need_told(plan, look, toll, paper):
    """Whether a paper with any number, heights and row is right for a need."""
    if not is_amount(paper.number) or not isinstance(paper.heights, dict):
        return False
    told = taken_along(plan, look, paper.row)
    if told is None or need_behind(toll, told) != paper.number:
        return False
    return are_heights(look, toll, paper.heights, paper.number)


def shows_ring_told(plan, look, toll, paper):
    """Whether a paper with any row and ring is right for a need without an end."""
    told = taken_along(plan, look, paper.row)
    if told is None or not isinstance(paper.ring, tuple):
        return False
    begin = knot_behind(look, told)
    knot = begin
    more = 0
    for step in paper.ring:
        steps, _ = look.steps_from(knot)
        if step not in steps:
            return False
        kind, name, site, knot = steps[steps.index(step)]
        more += toll.added(kind, name, site)
    return knot == begin and more > 0


def taken_along(plan, look, row):
    """What places do with a let row, a list as `walked` tells; None for any other value, or if they refuse somebody."""
    if not is_let_row(plan, row):
        return None
    told = walked(look.guide, row)
    return told if all([site is not None for _, _, site, _ in told]) else None


def need_behind(toll, told):
    """The need behind a row."""
    return sum([toll.added(kind, name, site) for kind, name, site, _ in told])


def knot_behind(look, told):
    """The knot behind a row."""
    knot = BEGIN
    for kind, name, site, _ in told:
        knot = look.knot_with(knot, name, site) if kind == "come" else look.knot_without(knot, name, site)
    return knot


def is_height(height, least, most):
    """Whether any value is an integer from a least to a greatest height."""
    return is_integer(height) and least <= height <= most


def are_heights(look, toll, heights, most):
    """Whether a dict has right heights of all knots that steps lead to from the begin, all comings being taken."""
    if not is_height(heights.get(BEGIN), 0, most):
        return False
    come_to = {BEGIN: True}
    waiting = [BEGIN]
    while waiting:
        knot = waiting.pop()
        steps, all_taken = look.steps_from(knot)
        if not all_taken:
            return False
        for kind, name, site, behind in steps:
            if not is_height(heights.get(behind), heights[knot] + toll.added(kind, name, site), most):
                return False
            if behind not in come_to:
                come_to[behind] = True
                waiting.append(behind)
    return True
