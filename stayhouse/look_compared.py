"""Looks at told papers of two houses that are compared, without a search."""

from stayhouse.compared import Alike, More, Never, Parted, houses_of, is_more, is_parted
from stayhouse.look_judge import MOST_EVENTS
from stayhouse.looks import is_let_row
from stayhouse.plays import Play

# A double is made of names, numbers and None in tuples that stand within one another so deep.
DEEP = 5


def shows_alike(one, other, value):
    """Whether any value is a right Alike or a right Parted."""
    houses = houses_of(one, other)
    if isinstance(value, Alike):
        return shows_table(houses, value.table, is_parted)
    if not isinstance(value, Parted):
        return False
    taken = taken_last(one, other, value.row)
    return taken is not None and is_parted(taken) and value.taker == ("one" if taken[0] else "other")


def shows_never(one, other, value):
    """Whether any value is a right Never or a right More."""
    houses = houses_of(one, other)
    if isinstance(value, Never):
        return shows_table(houses, value.table, is_more)
    if not isinstance(value, More):
        return False
    taken = taken_last(one, other, value.row)
    return taken is not None and is_more(taken)


def taken_last(one, other, row):
    """Whether each of two houses takes the last guest of any let row, a pair; None if no guest comes last."""
    # The length comes first: a long row needs no look at its events.
    if not isinstance(row, tuple) or not 1 <= len(row) <= MOST_EVENTS or not is_let_row(one.plan, row):
        return None
    if not isinstance(row[-1], str):
        return None
    here = Play(one.plan, one.stock, row).answers[-1]
    there = Play(other.plan, other.stock, row).answers[-1]
    return not isinstance(here, str), not isinstance(there, str)


def is_plain(value, deep):
    """Whether any value is made of strings, integers and None, in tuples that stand within one another so deep."""
    if isinstance(value, tuple):
        return deep > 0 and all([is_plain(part, deep - 1) for part in value])
    return value is None or isinstance(value, (str, int))


def shows_table(houses, table, parts_them):
    """Whether any value is a tuple that has all doubles that come about, and no coming parts there."""
    if not isinstance(table, tuple):
        return False
    # Nothing else equals a double, or can be a key.
    told = {value: True for value in table if is_plain(value, DEEP)}
    first = houses.first_meet()
    come_to = {first.key: True}
    waiting = [first]
    while waiting:
        meet = waiting.pop()
        if houses.double_at(meet) not in told:
            return False
        mets = houses.met_from(meet)
        if any([parts_them(met.taken) for met in mets]):
            return False
        goings = [houses.meet_without(meet, slot) for slot, _ in meet.key[0]]
        for behind in [met.meet for met in mets] + goings:
            if behind.key not in come_to:
                come_to[behind.key] = True
                waiting.append(behind)
    return True
