"""Looks at told needs of gates, without a search for them."""

from stayhouse.cart_needs import CartNeed, CartRing
from stayhouse.look_needs import shows_need_told, shows_ring_told
from stayhouse.looks import Look
from stayhouse.tolls import gate_bays, gate_toll


def shows_need(plan, bays, gate, value):
    """Whether any value is a right CartNeed or a right CartRing."""
    look = Look(plan, gate_bays(plan, bays, gate), None)
    if isinstance(value, CartNeed):
        return shows_need_told(plan, look, gate_toll(plan, gate), value)
    return isinstance(value, CartRing) and shows_ring_told(plan, look, gate_toll(plan, gate), value)
