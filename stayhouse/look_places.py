"""Looks at told papers of places, without a search for them."""

from stayhouse.guides import bays_of
from stayhouse.knots import BEGIN
from stayhouse.looks import Look, is_let_row, walked
from stayhouse.places import Crowded, Housed
from stayhouse.webs import MOST_KNOTS

MOST_EVENTS = 2000


def shows_places(plan, bays, value):
    """Whether any value is a right Housed or a right Crowded."""
    look = Look(plan, bays_of(plan, bays), None)
    if isinstance(value, Housed):
        return shows_housed(look, value.knots)
    return isinstance(value, Crowded) and shows_crowded(plan, look, value.row)


def shows_housed(look, knots):
    """Whether any value is a tuple of knots, the begin among them, that no step leads out of."""
    if not isinstance(knots, tuple) or len(knots) > MOST_KNOTS or not all([look.is_here(knot) for knot in knots]):
        return False
    table = {knot: True for knot in knots}
    if len(table) < len(knots) or BEGIN not in table:
        return False
    return all([is_closed(look, table, knot) for knot in knots])


def is_closed(look, table, knot):
    """Whether places refuse no let coming from a knot, and each step leads to a knot of a table."""
    steps, all_taken = look.steps_from(knot)
    return all_taken and all([behind in table for _, _, _, behind in steps])


def shows_crowded(plan, look, row):
    """Whether any value is a let row whose last event is a coming that places refuse, all others being taken."""
    # The length comes first: a long row needs no look at its events.
    if not isinstance(row, tuple) or not 1 <= len(row) <= MOST_EVENTS or not is_let_row(plan, row):
        return False
    told = walked(look.guide, row)
    return told[-1][0] == "come" and told[-1][2] is None and all([site is not None for _, _, site, _ in told[:-1]])
