"""Plain looks at papers, as the document tells them, and papers with something wrong in them."""

from collections import Counter

from plain import entries, first_pick, keeps, let_events, locker_of, plan_sites, play_places


def is_told(value, kinds):
    """Whether any value is an ascending tuple of tuples of these kinds, the last part being a number from 1 on."""
    if type(value) is not tuple:
        return False
    for entry in value:
        if type(entry) is not tuple or len(entry) != len(kinds):
            return False
        # As Python compares them, True is 1.
        if not all(isinstance(part, kind) for part, kind in zip(entry, kinds)) or entry[-1] < 1:
            return False
    keys = [entry[:-1] for entry in value]
    return all(one < other for one, other in zip(keys, keys[1:]))


def counters(knot):
    """The guests by wish and site, and the year, of a knot."""
    held, year = knot
    return Counter({entry[:-1]: entry[-1] for entry in held}), Counter({entry[:-1]: entry[-1] for entry in year})


def is_plain_knot(plan, bays, knot):
    """Whether any value is a knot of the plan that keeps the promise and the bays."""
    if type(knot) is not tuple or len(knot) != 2:
        return False
    if not is_told(knot[0], (str, str, int)) or not is_told(knot[1], (str, int)):
        return False
    there, year = counters(knot)
    if not set(there) <= set(plan.pairs) or not {name for name, in year} <= set(plan.counted):
        return False
    standing, taken = Counter(), Counter()
    for (name, site), number in there.items():
        standing[name] += number
        taken[site] += number
    if any(number > bays.get(site, 0) for site, number in taken.items()):
        return False
    return keeps(plan.promise, standing, Counter({name: number for (name,), number in year.items()}))


def plain_steps(plan, bays, knot):
    """All let steps from a knot: (kind, wish, site, knot behind); the site is None if places refuse."""
    there, year = counters(knot)
    steps = []
    for name in plan.names:
        standing, came = Counter({name: 1}), Counter({name: 1})
        for (other, _), number in there.items():
            standing[other] += number
        for (other,), number in year.items():
            came[other] += number
        if keeps(plan.promise, standing, came):
            free = {site: bays.get(site, 0) - sum(n for (_, taken), n in there.items() if taken == site)
                    for site in plan_sites(plan)}
            site = first_pick(plan[name], free)
            more = Counter({(name,): 1} if name in plan.counted else {})
            behind = (entries(there + Counter({(name, site): 1})), entries(year + more)) if site else None
            steps.append(("come", name, site, behind))
    for pair in sorted(there):
        steps.append(("go",) + pair + ((entries(there - Counter({pair: 1})), knot[1]),))
    return steps


def plain_housed(plan, bays, knots):
    """Whether any value is right as the knots of a Housed."""
    if type(knots) is not tuple or len(knots) > 20000:
        return False
    if not all(is_plain_knot(plan, bays, knot) for knot in knots):
        return False
    if any(knots.count(knot) > 1 for knot in knots) or ((), ()) not in knots:
        return False
    return all(site is not None and behind in knots
               for knot in knots for _, _, site, behind in plain_steps(plan, bays, knot))


def is_let(plan, row):
    """Whether any value is a let row, a tuple."""
    if type(row) is not tuple:
        return False
    for at, event in enumerate(row):
        if type(event) not in (str, int) or event not in let_events(plan, row[:at]):
            return False
    return True


def plain_crowded(plan, bays, row, hall=None, rack=None):
    """Whether any value is right as the row of a Crowded, or of a Short."""
    if not is_let(plan, row) or not 1 <= len(row) <= 2000:
        return False
    told = play_places(plan, bays, row, hall, rack)
    kind, _, site, locker = told[-1]
    refused = site is None if hall is None else site is not None and locker is None
    return kind == "come" and refused and all(site is not None and locker is not None for _, _, site, locker in told[:-1])


def plain_fits(plan, bays, hall, rack, knots):
    """Whether any value is right as the hall knots of a Fits."""
    if type(knots) is not tuple or len(knots) > 20000:
        return False
    if not all(is_plain_hall_knot(plan, bays, hall, rack, knot) for knot in knots):
        return False
    if any(knots.count(knot) > 1 for knot in knots) or (((), ()), ()) not in knots:
        return False
    return all(behind in knots for knot in knots for behind in plain_hall_steps(plan, bays, hall, rack, knot))


def has_thing(plan, hall, name, site):
    """Whether guests of a wish with a bay of a site have something in a hall."""
    return plan[name].size > 0 and plan.site_of(site).hall == hall


def is_plain_hall_knot(plan, bays, hall, rack, knot):
    """Whether any value is a hall knot whose things are just those of its guests."""
    if type(knot) is not tuple or len(knot) != 2 or not is_plain_knot(plan, bays, knot[0]):
        return False
    if not is_told(knot[1], (str, str, int, int)):
        return False
    expected = {entry[:2]: entry[2] for entry in knot[0][0] if has_thing(plan, hall, *entry[:2])}
    told, away = Counter(), Counter()
    for name, site, locker, number in knot[1]:
        told[(name, site)] += number
        away[locker] += number
        if (name, site) not in expected or locker < plan[name].size or locker > 9:
            return False
    return told == Counter(expected) and all(rack.nine[locker - 1] >= away[locker] for locker in away)


def plain_hall_steps(plan, bays, hall, rack, knot):
    """The hall knots behind all steps that places let; None for a coming that the hall refuses."""
    things = Counter({entry[:-1]: entry[-1] for entry in knot[1]})
    away = Counter()
    for (_, _, locker), number in things.items():
        away[locker] += number
    behind = []
    for kind, name, site, below in plain_steps(plan, bays, knot[0]):
        own = site is not None and has_thing(plan, hall, name, site)
        if kind == "come" and site is not None:
            locker = locker_of(plan, hall, rack.nine, away, plan[name].size) if own else 0
            added = Counter({(name, site, locker): 1} if own else {})
            behind.append(None if locker is None else (below, entries(things + added)))
        elif kind == "go":
            for lockers in [key for key in things if key[:2] == (name, site)] if own else [None]:
                behind.append((below, entries(things - Counter({lockers: 1} if own else {}))))
    return behind


def plain_need_paper(plan, bays, adds, number, heights, row):
    """Whether any values are right as the number, the heights and the row of a need."""
    if type(number) is not int or number < 0 or type(heights) is not dict or not is_let(plan, row):
        return False
    told = play_places(plan, bays, row)
    if any(site is None for _, _, site, _ in told):
        return False
    if sum(adds(kind, name, site) for kind, name, site, _ in told) != number:
        return False
    begin = ((), ())
    if type(heights.get(begin)) is not int or heights[begin] < 0:
        return False
    met, waiting = [begin], [begin]
    while waiting:
        knot = waiting.pop()
        if heights[knot] > number:
            return False
        for kind, name, site, behind in plain_steps(plan, bays, knot):
            if site is None or type(heights.get(behind)) is not int:
                return False
            if heights[behind] < heights[knot] + adds(kind, name, site):
                return False
            if behind not in met:
                met.append(behind)
                waiting.append(behind)
    return True


def plain_ring_paper(plan, bays, adds, row, ring):
    """Whether any values are right as the row and the ring of a need without an end."""
    if not is_let(plan, row) or type(ring) is not tuple:
        return False
    told = play_places(plan, bays, row)
    if any(site is None for _, _, site, _ in told):
        return False
    knot = ((), ())
    for kind, name, site, _ in told:
        knot = [step[3] for step in plain_steps(plan, bays, knot) if step[:3] == (kind, name, site)][0]
    begin, total = knot, 0
    for step in ring:
        steps = [known for known in plain_steps(plan, bays, knot) if known[2] is not None and known == step]
        if not steps:
            return False
        kind, name, site, knot = steps[0]
        total += adds(kind, name, site)
    return knot == begin and total > 0


def other_values(value):
    """Values of another kind, or with another number, than a part of a paper."""
    told = [None, "", "a", (), [], {}, 0, 1, -1, True, False]
    if isinstance(value, int):
        told += [value + 1, value - 1, value + 100, str(value)]
    if isinstance(value, str):
        told += ["a", "b", "near", "far", "come", "go", value + "x", (value,)]
    if isinstance(value, tuple):
        told += [list(value), value + value, value[:-1], value[::-1], value[1:], value + (0,), (value,)]
    if isinstance(value, dict):
        told += [list(value.items()), {}, tuple(value)]
    return told


def changed_once(rng, value):
    """A value like it in which one part, somewhere, is left out, put in, exchanged, or of another kind."""
    if isinstance(value, tuple) and value and rng.random() < 0.8:
        at = rng.randrange(len(value))
        if rng.random() < 0.2:
            return value[:at] + value[at + 1:]
        if rng.random() < 0.2:
            return value[:at] + (rng.choice(value),) + value[at:]
        return value[:at] + (changed_once(rng, value[at]),) + value[at + 1:]
    if isinstance(value, dict) and value and rng.random() < 0.9:
        key = rng.choice(list(value))
        changed = dict(value)
        if rng.random() < 0.3:
            del changed[key]
        elif rng.random() < 0.2:
            changed[other_key(rng, key)] = changed.pop(key)
        else:
            changed[key] = changed_once(rng, value[key])
        return changed
    return rng.choice(other_values(value))


def other_key(rng, key):
    """A changed key that can be one."""
    changed = changed_once(rng, key)
    try:
        hash(changed)
    except TypeError:
        return key
    return changed
