"""Papers of two houses that are looked at."""

import random
import unittest

from stayhouse.compared import Alike, More, Never, Parted, alike, never_more
from stayhouse.errors import TooMany
from stayhouse.house import House
from stayhouse.limits import Limit
from stayhouse.look_compared import shows_alike, shows_never
from stayhouse.plans import Plan
from stayhouse.promises import Promise
from stayhouse.sites import Site
from stayhouse.stock import Stock
from stayhouse.wishes import Wish

from helpers import ANY, StayTest
from plain import let_events
from plain_doubles import Both, alike_parts, never_parts
from plain_looks import changed_once, is_let
from test_compared import FEW, MORE, pairs_beside, year_house


def plain_table(one, other, table, parts):
    """Whether any value is a tuple with all doubles that come about, none of them with a coming that parts."""
    if type(table) is not tuple:
        return False
    met, level = [Both(one, other, ()).double()], [()]
    if met[0] not in table:
        return False
    while level:
        following = []
        for row in level:
            for event in let_events(one.plan, row):
                both = Both(one, other, row + (event,))
                if isinstance(event, str) and parts(both.taken()):
                    return False
                double = both.double()
                if double not in table:
                    return False
                if double not in met:
                    met.append(double)
                    following.append(both.row)
        level = following
    return True


def plain_row(one, other, row):
    """Whether each of both takes the last guest of any let row of at most 500 events; None for any other value."""
    if type(row) is not tuple or not 1 <= len(row) <= 500 or not is_let(one.plan, row) or not isinstance(row[-1], str):
        return None
    return Both(one, other, row).taken()


def plain_parted(one, other, row, taker):
    """Whether any values are right as the row and the taker of a Parted."""
    taken = plain_row(one, other, row)
    return taken in ((True, False), (False, True)) and type(taker) is str and taker == ("one" if taken[0] else "other")


def papers_of(seed, many):
    """Pairs of houses, each with both papers, where there are not too many doubles."""
    for one, other, rng in pairs_beside(seed, many):
        try:
            yield one, other, alike(one, other), never_more(one, other), rng
        except TooMany:
            pass


class LookComparedTest(StayTest):
    def test_other_values(self):
        first = ("packed", "packed")
        for value in ANY + [Alike, FEW, MORE.stock, first, [first]]:
            self.assertIs(shows_alike(FEW, MORE, value), False)
            self.assertIs(shows_never(FEW, MORE, value), False)
            self.assertIs(shows_alike(FEW, FEW, Alike(value)), False)
            self.assertIs(shows_never(FEW, FEW, Never(value)), False)
            self.assertIs(shows_alike(FEW, MORE, Parted(value, "other")), value == first)
            self.assertIs(shows_never(FEW, MORE, More(value)), value == first)
            self.assertIs(shows_alike(FEW, MORE, Parted(first, value)), False)
        # Each kind of papers is asked for by its own function.
        self.assertIs(shows_alike(FEW, FEW, never_more(FEW, FEW)), False)
        self.assertIs(shows_never(FEW, FEW, alike(FEW, FEW)), False)
        self.assertIs(shows_alike(FEW, MORE, More(first)), False)
        self.assertIs(shows_never(FEW, MORE, Parted(first, "other")), False)

    def test_told(self):
        right = {Alike: 0, Parted: 0, Never: 0, More: 0}
        for one, other, found, never, _ in papers_of(131, 120):
            self.assertIs(shows_alike(one, other, found), True)
            self.assertIs(shows_never(one, other, never), True)
            right[type(found)] += 1
            right[type(never)] += 1
            if found:
                # Alike houses never refuse more; so the table is right for both.
                self.assertIs(shows_never(one, other, Never(found.table)), True)
                self.assertIs(shows_never(other, one, Never(found.table)), shows_alike(other, one, Alike(found.table)))
            else:
                self.assertIs(shows_alike(other, one, Parted(found.row, {"one": "other", "other": "one"}[found.taker])), True)
                self.assertIs(shows_alike(other, one, found), False)
        self.assertGreater(min(right.values()), 15, right)

    def test_tables_with_one_out(self):
        some = 0
        for one, other, found, never, _ in papers_of(132, 60):
            for paper, shows in ((found, shows_alike), (never, shows_never)):
                if paper and len(paper.table) < 40:
                    kind = type(paper)
                    self.assertIs(shows(one, other, kind(paper.table[::-1])), True)
                    self.assertIs(shows(one, other, kind(paper.table * 2)), True)
                    self.assertIs(shows(one, other, kind(tuple(ANY) + paper.table + ((paper.table,), paper))), True)
                    self.assertIs(shows(one, other, kind(list(paper.table))), False)
                    for at in range(len(paper.table)):
                        self.assertIs(shows(one, other, kind(paper.table[:at] + paper.table[at + 1:])), False)
                        some += 1
        self.assertGreater(some, 100)

    def test_changed(self):
        rng = random.Random(133)
        right = wrong = 0
        for one, other, found, never, _ in papers_of(134, 50):
            for paper, shows, parts in ((found, shows_alike, alike_parts), (never, shows_never, never_parts)):
                if paper and len(paper.table) > 25:
                    continue
                for _ in range(15):
                    if paper:
                        table = changed_once(rng, paper.table)
                        told, expected = type(paper)(table), plain_table(one, other, table, parts)
                    else:
                        row = changed_once(rng, paper.row)
                        if type(paper) is Parted:
                            taker = rng.choice([paper.taker, paper.taker, "one", "other", "purse", None, ("one",)])
                            told, expected = Parted(row, taker), plain_parted(one, other, row, taker)
                        else:
                            told, expected = More(row), plain_row(one, other, row) == (False, True)
                    self.assertIs(shows(one, other, told), expected, told.kept())
                    right += expected
                    wrong += not expected
        self.assertGreater(right, 50)
        self.assertGreater(wrong, 300)

    def test_other_houses(self):
        wrong = 0
        papers = list(papers_of(135, 40))
        for one, other, found, never, _ in papers:
            for paper, shows, parts in ((found, shows_alike, alike_parts), (never, shows_never, never_parts)):
                if paper and len(paper.table) < 40:
                    twin = House(one.plan, one.stock)
                    for here, there in ((twin, twin), (other, one)):
                        expected = plain_table(here, there, paper.table, parts)
                        self.assertIs(shows(here, there, paper), expected)
                        wrong += not expected
        self.assertGreater(wrong, 10)

    def test_true_is_one_as_python_compares(self):
        found = alike(FEW, FEW)
        table = tuple((tuple((kind, True if many == 1 else many) for kind, many in guests),) + tuple(rest) for guests, *rest in found.table)
        self.assertIs(shows_alike(FEW, FEW, Alike(table)), True)

    def test_rows_that_are_not_shortest(self):
        for row, taker in (
                (("packed", "light", "packed"), None), (("light", "packed", 0, "packed"), "other"), (("packed", "light", 1, "packed"), "other"),
                (("packed", "packed", "light"), "one"), (("packed", "packed", 1, "packed"), "other"), (("packed", "packed", 1), None),
                (("packed", "packed", "light", 2), None), (("packed", "packed", 0), None), (("packed",), None), ((), None)):
            for told in ("one", "other"):
                self.assertIs(shows_alike(FEW, MORE, Parted(row, told)), told == taker, row)
            self.assertIs(shows_never(FEW, MORE, More(row)), taker == "other", row)
            self.assertIs(shows_never(MORE, FEW, More(row)), taker == "one", row)

    def test_rows_of_500_events_and_501(self):
        few, more = [House(FEW.plan, house.stock.with_bays({"bay": 3})) for house in (FEW, MORE)]
        for begin in (("packed",), ("packed", "light")):
            for goings in (248, 249):
                row = begin + tuple(event for number in range(goings) for event in ("light", len(begin) + number)) + ("packed",)
                self.assertIn(len(row), (498, 499, 500, 501))
                self.assertIs(shows_alike(few, more, Parted(row, "other")), len(row) <= 500, len(row))
                self.assertIs(shows_never(few, more, More(row)), len(row) <= 500, len(row))

    def test_no_end(self):
        # They walk as long as what they meet is in the tuple.
        plan = Plan([Wish("a", [("bay", 0)], price=1)], [Site("bay", "hall", "gate")], Promise(Limit(1, a=1)))
        house = House(plan, Stock({"bay": 1}, None, None, [10 ** 39]))
        finite = year_house(50)
        for value in (Alike(alike(finite, finite).table), Alike(()), Alike((((), (), ((), (("gate", 0),), (0,)), ((), (("gate", 0),), (0,))),))):
            self.assertIs(shows_alike(house, house, value), False)

    def test_more_than_20000_doubles(self):
        # They look at tuples of any size, in which all doubles are.
        plan = Plan([Wish("a", [("bay", 0)])], [Site("bay", "hall", "gate")], Promise(Limit(20100, a=1)))
        house = House(plan, Stock({}, None, None, [0]))
        self.raises(TooMany("standings", 20000), alike, house, house)
        empty = ((), (("gate", 0),), (0,))
        kind = ("a", None, None)
        table = (((), (), empty, empty),) + tuple((((kind, many),), (), empty, empty) for many in range(1, 20101))
        self.assertIs(shows_alike(house, house, Alike(table)), True)
        self.assertIs(shows_never(house, house, Never(table)), True)
        self.assertIs(shows_never(house, house, Never(table[:-1])), False)


if __name__ == "__main__":
    unittest.main()
