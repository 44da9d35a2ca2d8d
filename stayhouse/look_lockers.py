"""Looks at told papers of halls, without a search for them."""

from stayhouse.guides import Hall, bays_of, check_hall
from stayhouse.knots import BEGIN
from stayhouse.lockers import Fits, Short
from stayhouse.look_places import MOST_EVENTS
from stayhouse.looks import Look, is_let_row, walked
from stayhouse.webs import MOST_KNOTS


def shows_hall(plan, bays, hall, rack, value):
    """Whether any value is a right Fits or a right Short."""
    told = bays_of(plan, bays)
    check_hall(plan, hall, rack)
    look = Look(plan, told, Hall(plan, hall, rack))
    if isinstance(value, Fits):
        return shows_fits(look, value.knots)
    return isinstance(value, Short) and shows_short(plan, look, value.row)


def shows_fits(look, knots):
    """Whether any value is a tuple of hall knots, the begin among them, that no step leads out of."""
    if not isinstance(knots, tuple) or len(knots) > MOST_KNOTS or not all([look.is_in_hall(knot) for knot in knots]):
        return False
    table = {knot: True for knot in knots}
    if len(table) < len(knots) or (BEGIN, ()) not in table:
        return False
    # Where the hall refuses a coming, None stands for the knot behind: it is in no table.
    return all([behind in table for knot in knots for behind in look.hall_knots_from(knot)])


def shows_short(plan, look, row):
    """Whether any value is a let row whose last event is a coming that the hall refuses, all others being taken."""
    if not isinstance(row, tuple) or not 1 <= len(row) <= MOST_EVENTS or not is_let_row(plan, row):
        return False
    told = walked(look.guide, row)
    kind, _, site, locker = told[-1]
    if kind != "come" or site is None or locker is not None:
        return False
    return all([given is not None for _, _, _, given in told[:-1]])
