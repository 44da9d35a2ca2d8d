"""Knots of webs: who is there and who came, as tuples; their forms, and what a step makes of them.

A told number stands last in a tuple, behind its *key*: (wish, site) in a held, (wish, site, locker)
in things, (wish,) in a year. Looks at knots take True for 1, as Python compares them, unless told otherwise.
"""

from stayhouse.checks import MOST_SIZE, is_name

BEGIN = ((), ())
MOST_TRIPLES = 64


def is_many(value):
    """Whether any value equals an integer from 1 on."""
    return isinstance(value, int) and value > 0


def is_entry(value, parts):
    """Whether any value is a tuple of so many parts that ends with a number from 1 on."""
    return isinstance(value, tuple) and len(value) == parts and is_many(value[-1])


def keys_ascend(entries):
    """Whether the keys of told numbers ascend, none of them standing there twice."""
    return all([entries[at][:-1] < entries[at + 1][:-1] for at in range(len(entries) - 1)])


def has_bool(value):
    """Whether some part of nested tuples is a bool."""
    if isinstance(value, tuple):
        return any([has_bool(part) for part in value])
    return isinstance(value, bool)


def is_triple(value):
    """Whether any value is a triple (wish, site, number) of names."""
    return is_entry(value, 3) and is_name(value[0]) and is_name(value[1])


def is_quadruple(value):
    """Whether any value is a quadruple (wish, site, locker, number) of names and the size of a locker."""
    if not is_entry(value, 4) or not is_name(value[0]) or not is_name(value[1]):
        return False
    return is_many(value[2]) and value[2] <= MOST_SIZE


def is_pair(value):
    """Whether any value is a pair (wish, number) of a name."""
    return is_entry(value, 2) and is_name(value[0])


def is_held(value):
    """Whether any value is a held of any names."""
    return isinstance(value, tuple) and all([is_triple(entry) for entry in value]) and keys_ascend(value)


def is_things(value):
    """Whether any value is the things of a hall, of any names."""
    return isinstance(value, tuple) and all([is_quadruple(entry) for entry in value]) and keys_ascend(value)


def is_year(value):
    """Whether any value tells numbers of wishes that came, of any names."""
    return isinstance(value, tuple) and all([is_pair(entry) for entry in value]) and keys_ascend(value)


def is_two(value):
    """Whether any value is a pair."""
    return isinstance(value, tuple) and len(value) == 2


def is_knot(value):
    """Whether any value is a knot of places, of any names."""
    return is_two(value) and is_held(value[0]) and is_year(value[1])


def is_hall_knot(value):
    """Whether any value is a hall knot, of any names."""
    return is_two(value) and is_knot(value[0]) and is_things(value[1])


def one_more(entries, key):
    """The told numbers with one more for a key."""
    at = place_of(entries, key)
    if at < len(entries) and entries[at][:-1] == key:
        return entries[:at] + (key + (entries[at][-1] + 1,),) + entries[at + 1:]
    return entries[:at] + (key + (1,),) + entries[at:]


def one_fewer(entries, key):
    """The told numbers with one less for a key that stands there."""
    at = place_of(entries, key)
    if entries[at][-1] > 1:
        return entries[:at] + (key + (entries[at][-1] - 1,),) + entries[at + 1:]
    return entries[:at] + entries[at + 1:]


def place_of(entries, key):
    """The index of the first told number whose key is not below a key."""
    at = 0
    while at < len(entries) and entries[at][:-1] < key:
        at += 1
    return at


def sums_of(entries, part):
    """The dict of the numbers, added up for each value of one part of the keys."""
    numbers = {}
    for entry in entries:
        numbers[entry[part]] = numbers.get(entry[part], 0) + entry[-1]
    return numbers
