"""Needs of intervals of lines: how much let rows pay there."""

from stayhouse.checks import is_name, is_sequence
from stayhouse.errors import BadRow, BadStock, Unbounded
from stayhouse.guides import Guide, bays_of, check_plan
from stayhouse.lines import are_amounts
from stayhouse.looks import walked
from stayhouse.needs import Ways, check_taken, need_told, ring_told
from stayhouse.papers import Denial, Paper, lasting
from stayhouse.places import place_search
from stayhouse.rows import wrong_at
from stayhouse.tolls import check_lines, line_bays, line_toll
from stayhouse.webs import Search


class LineNeed(Paper):
    """The greatest need of an interval of lines, heights that show it, and a row that has it."""

    def __init__(self, number, heights, row):
        self.number = lasting(number)
        self.heights = lasting(heights)
        self.row = lasting(row)

    def kept(self):
        """What the paper keeps."""
        return self.number, self.heights, self.row


class LineRing(Denial):
    """There is no end to the need of an interval: a row to a knot, and steps from it to itself that pay more."""

    def __init__(self, row, ring):
        self.row = lasting(row)
        self.ring = lasting(ring)

    def kept(self):
        """What the paper keeps."""
        return self.row, self.ring


def check_row(plan, row):
    """Raises unless any value is a list or tuple of events: names of wishes of a plan, and who came and goes."""
    if not is_sequence(row):
        raise BadRow("row")
    wrong = wrong_at(row)
    for at, event in enumerate(row[:wrong]):
        if is_name(event) and event not in plan:
            raise BadRow(at)
    if wrong is not None:
        raise BadRow(wrong)


def spent_in(plan, bays, row):
    """What each line paid behind a row, let or not."""
    told = bays_of(plan, bays)
    check_row(plan, row)
    spent = [0] * plan.lines
    for kind, name, site, _ in walked(Guide(plan, told, None), row):
        if kind == "come" and site is not None:
            spent[plan.site_of(site).line - 1] += plan[name].price
    return tuple(spent)


def need_of_lines(plan, bays, i, j):
    """The LineNeed of an interval; a LineRing if there is no end to it."""
    search = Search(Guide(plan, line_bays(plan, bays, i, j), None))
    check_taken(plan, search)
    ways = Ways(search, line_toll(plan, i, j))
    endless = ways.endless()
    if endless is not None:
        row, ring = ring_told(search, endless)
        return LineRing(row, ring)
    number, heights, row = need_told(search, ways)
    return LineNeed(number, heights, row)


def intervals(plan):
    """The list of all pairs (i, j) of lines, i at most j."""
    return [(i, j) for i in range(1, plan.lines + 1) for j in range(i, plan.lines + 1)]


def line_needs(plan, bays):
    """The dict of the greatest needs of all intervals of lines, None where there is no end."""
    search = place_search(plan, bays)
    check_taken(plan, search)
    return {(i, j): greatest_of(Ways(search, line_toll(plan, i, j))) for i, j in intervals(plan)}


def greatest_of(ways):
    """The greatest need, None without an end."""
    if ways.endless() is not None:
        return None
    return max([int(height) for height in ways.greatest_needs()])


def least_sums(plan, bays, caps):
    """The least first sums with which the purse refuses nobody, that of the last line ahead of all others."""
    bays_of(plan, bays)
    if caps is not None and (not are_amounts(caps) or len(caps) != plan.lines - 1):
        raise BadStock("caps")
    needs = line_needs(plan, bays)
    if not all([needs[pair] is not None for pair in needs]):
        raise Unbounded("sums")
    moved = (0,) * plan.lines if caps is None else (0,) + tuple(caps)
    sums = []
    for i in range(plan.lines, 0, -1):
        # What the lines from i to j need, less what comes into i and what the lines behind i have.
        lacking = [needs[(i, j)] - moved[i - 1] - sum(sums[:j - i]) for j in range(i, plan.lines + 1)]
        sums = [max(0, max([int(more) for more in lacking]))] + sums
    return tuple(sums)


def own_spent(plan, i, j):
    """The greatest need of an interval if each guest may get a bay of any site of his picks; None without an end."""
    check_plan(plan)
    check_lines(plan, i, j)
    toll = line_toll(plan, i, j)
    prices = {name: dearest(plan, toll, name) for name in plan.names if plan.promise.can_come(name)}
    if not all([name in plan.counted or prices[name] == 0 for name in prices]):
        return None
    best = 0
    for year in plan.promise.years():
        best = max(int(best), sum([prices[name] * year[name] for name in year.names]))
    return best


def dearest(plan, toll, name):
    """The most that a guest of a wish can pay in an interval."""
    return max([int(toll.takes[pair]) for pair in plan.pairs if pair[0] == name])
