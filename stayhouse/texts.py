"""Texts of plans, houses and doors."""

from stayhouse.door import Door
from stayhouse.errors import BadHouse, BadRule
from stayhouse.fittings import has_no_text
from stayhouse.guides import check_plan
from stayhouse.house import House


def plan_text(plan):
    """The text of a plan."""
    check_plan(plan)
    return "\n".join(plan_lines(plan))


def house_text(house):
    """The text of a house: its plan, its stock, and the deeds of its history."""
    if not isinstance(house, House):
        raise BadHouse("house")
    deeds = [" ".join(deed) for deed in house.history]
    return "\n".join(plan_lines(house.plan) + [f"stock {house.stock}"] + deeds)


def door_text(door):
    """The text of a door: its book, its promise, and its calendar."""
    if not isinstance(door, Door):
        raise BadHouse("door")
    return f"book {door.book}\npromise {door.promise}\ncalendar {door.calendar_now()}"


def plan_lines(plan):
    """The list of the lines of a plan; raises if a fitting of it cannot be written."""
    if any([has_no_text(fitting) for _, fitting in plan.fittings]):
        raise BadRule("fitting")
    halls = [f"hall {hall} {fitting}" for hall, fitting in plan.fittings]
    sites = [f"site {site}" for site in plan.sites]
    wishes = [f"wish {wish}" for wish in plan.wishes]
    return [f"lines {plan.lines}"] + sites + halls + wishes + [f"promise {plan.promise}"]
