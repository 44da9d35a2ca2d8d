"""Houses that are compared: alike ones, those that never refuse more, what spoils, who is closer."""

import random
import unittest

from stayhouse.compared import Alike, More, Never, Parted, alike, closer, never_more, spoilers, spoils
from stayhouse.counts import Counts
from stayhouse.errors import BadHouse, BadPlan, BadPromise, BadRule, BadStock, TooMany
from stayhouse.fittings import By
from stayhouse.house import House
from stayhouse.judge import is_safe
from stayhouse.limits import Limit, YearLimit
from stayhouse.look_compared import shows_alike, shows_never
from stayhouse.plans import Plan
from stayhouse.plays import played
from stayhouse.promises import Promise
from stayhouse.racks import Rack
from stayhouse.sites import Site
from stayhouse.stock import Stock
from stayhouse.wishes import Wish

from helpers import ANY, StayTest
from plain import let_rows, some_row
from plain_doubles import alike_parts, houses_beside, never_parts, plain_contest
from test_judge import safe_houses

WISHES = [Wish("light", [("bay", 0)]), Wish("packed", [("bay", 0)], size=1)]
PLAN = Plan(WISHES, [Site("bay", "hall", "gate", 1)], Promise(Limit(3, light=1, packed=1)))
FEW, MORE = [House(PLAN, Stock({"bay": 2}, {"hall": {1: many}}, {}, [0])) for many in (1, 2)]


def year_house(many, most=1, price=1, bays=2):
    """A house with one wish, of which so many come in a year, and so many at once."""
    plan = Plan([Wish("a", [("bay", 0)], price=price)], [Site("bay", "hall", "gate")], Promise(Limit(most, a=1), YearLimit(many, a=1)))
    return House(plan, Stock({"bay": bays}, None, None, [10 ** 6]))


def pairs_beside(seed, many):
    """Pairs of small houses, always the same ones for a seed."""
    rng = random.Random(seed)
    for _ in range(many):
        yield (*houses_beside(rng), rng)


class ErrorsTest(StayTest):
    def test_houses(self):
        for function, end in ((alike, ()), (never_more, ()), (closer, ()), (shows_alike, (5,)), (shows_never, (5,))):
            for value in ANY + [PLAN, FEW.stock]:
                self.raises(BadHouse("one"), function, value, 5, *end)
                self.raises(BadHouse("other"), function, FEW, value, *end)
        for value in ANY + [PLAN, FEW.stock]:
            self.raises(BadHouse("house"), spoils, value, 5)
            self.raises(BadHouse("house"), lambda: next(spoilers(value)))

    def test_plans(self):
        light = Plan(WISHES[:1], PLAN.sites, Promise(Limit(3, light=1)))
        other = House(light, Stock({}, None, None, [0]))
        looser = House(PLAN.with_promise(Promise(Limit(3, packed=1, light=1), Limit(3, light=1))), FEW.stock)
        turned = House(Plan(WISHES[::-1], PLAN.sites, PLAN.promise), FEW.stock)
        for function, end in ((alike, ()), (never_more, ()), (closer, ()), (shows_alike, (5,)), (shows_never, (5,))):
            # The promises are unlike, too: the names are told first.
            self.raises(BadPlan("wishes"), function, FEW, other, *end)
            self.raises(BadPlan("wishes"), function, other, FEW, *end)
            self.raises(BadPromise("other"), function, FEW, looser, *end)
            function(FEW, turned, *end)
        self.assertEqual(closer(FEW, turned), "alike")

    def test_stocks(self):
        for value in ANY:
            self.raises(BadStock("stock"), spoils, FEW, value)
        own = FEW.stock
        self.raises(BadStock("sums"), spoils, FEW, Stock({}, None, None, [0, 0], [0]))
        self.raises(BadStock("sums"), spoils, FEW, Stock({"nook": 5}))
        for less in (own.with_bays({"bay": 1}), own.with_rack("hall", []), own.with_rack("hall", [0, 5]), own.with_bays({"nook": 9})):
            self.raises(BadStock("less"), spoils, FEW, less)
        for stock, part in ((own.with_bays({"bay": 2, "nook": 1}), "bays"), (own.with_rack("attic", [1]), "racks"), (own.with_carts("back", 1), "carts")):
            self.raises(BadStock(part), spoils, FEW, stock)

    def test_by_name(self):
        self.assertEqual(alike(one=FEW, other=MORE), Parted(("packed", "packed"), "other"))
        self.assertEqual(never_more(one=FEW, other=MORE), More(("packed", "packed")))
        self.assertEqual((closer(one=FEW, other=FEW), spoils(house=FEW, stock=FEW.stock)), ("alike", None))
        self.assertEqual(next(spoilers(house=FEW))[0], "bay bay")
        self.assertIs(shows_alike(one=FEW, other=FEW, value=alike(FEW, FEW)), True)
        self.assertIs(shows_never(one=FEW, other=FEW, value=never_more(FEW, FEW)), True)

    def test_fittings_that_fail(self):
        house = House(PLAN.with_fitting("hall", By(lambda free, size: 9)), FEW.stock)
        for function in (alike, never_more, closer):
            self.raises(BadRule("locker"), function, FEW, house)
        self.raises(BadRule("locker"), shows_alike, FEW, house, Parted(("packed",), "one"))

    def test_20000_doubles_and_more(self):
        # Two doubles for each number who came, but for one at the begin.
        house = year_house(9999)
        found = alike(house, house)
        self.assertEqual(len(found.table), 19999)
        self.assertIs(shows_alike(house, house, found), True)
        self.assertIs(shows_alike(house, house, Alike(found.table[:-1])), False)
        self.assertEqual(found.table, never_more(house, house).table)
        self.assertEqual(closer(house, house), "alike")
        great = year_house(10000)
        for work in (alike, never_more, closer):
            self.raises(TooMany("standings", 20000), work, great, great)
        self.raises(TooMany("standings", 20000), spoils, great, great.stock)
        self.raises(TooMany("standings", 20000), lambda: next(spoilers(great)))
        self.assertEqual(list(spoilers(year_house(50))), [])

    def test_just_20000_doubles(self):
        wishes = [Wish("a", [("bay", 0)])]
        sites = [Site("bay", "hall", "gate")]
        for most, error in ((19999, None), (20000, TooMany("standings", 20000))):
            plan = Plan(wishes, sites, Promise(Limit(most, a=1)))
            house = House(plan, Stock({"bay": 10 ** 6}, None, None, [0]))
            if error is None:
                self.assertEqual(len(alike(house, house).table), 20000)
            else:
                self.raises(error, alike, house, house)

    def test_rows_ahead_of_too_many(self):
        # 20,000 doubles come about by rows shorter than the row that parts; with one more guest ahead of it they are too many.
        for bays, row in ((19999, True), (20000, False)):
            plan = Plan([Wish("a", [("bay", 0)])], [Site("bay", "hall", "gate")], Promise(Limit(10 ** 6, a=1)))
            one, other = [House(plan, Stock({"bay": many}, None, None, [0])) for many in (bays, bays + 1)]
            if row:
                self.assertEqual(alike(one, other), Parted(("a",) * (bays + 1), "other"))
                self.assertEqual(alike(other, one), Parted(("a",) * (bays + 1), "one"))
                self.assertEqual(never_more(one, other), More(("a",) * (bays + 1)))
                self.raises(TooMany("standings", 20000), never_more, other, one)
            else:
                self.raises(TooMany("standings", 20000), alike, one, other)
                self.raises(TooMany("standings", 20000), never_more, one, other)

    def test_rows_told_at_once(self):
        # No end to the doubles: the row that parts is told, whatever comes behind.
        plan = Plan([Wish("a", [("bay", 0)], price=1), Wish("b", [("bay", 0)], price=1)], [Site("bay", "hall", "gate")], Promise(Limit(500, a=1, b=1)))
        one, other = [House(plan, Stock({"bay": many}, None, None, [10 ** 9])) for many in (1, 2)]
        self.assertEqual(alike(one, other), Parted(("a", "a"), "other"))
        self.raises(TooMany("standings", 20000), never_more, other, one)


class ComparedTest(StayTest):
    def test_against_plain_trying(self):
        found = {"alike": 0, "parted": 0, "never": 0, "more": 0, "far": 0}
        for one, other, rng in pairs_beside(121, 150):
            for work, parts, right, wrong in ((alike, alike_parts, Alike, Parted), (never_more, never_parts, Never, More)):
                doubles, told, whole = plain_contest(one, other, parts, 5)
                try:
                    paper = work(one, other)
                except TooMany:
                    self.assertIsNone(told)
                    self.assertIs(whole, False)
                    continue
                if told is None and whole:
                    self.assertEqual(paper, right(tuple(doubles)))
                    self.assertIs(type(paper.table), tuple)
                elif told is None:
                    if paper:
                        self.assertEqual(paper.table[:len(doubles)], tuple(doubles))
                    else:
                        self.assertGreater(len(paper.row), 5)
                        found["far"] += 1
                elif wrong is Parted:
                    self.assertEqual(paper, Parted(told[0], "one" if told[1][0] else "other"))
                else:
                    self.assertEqual(paper, More(told[0]))
                found["alike" if type(paper) is Alike else type(paper).__name__.lower()] += 1
        self.assertGreater(min(found.values()), 2, found)

    def test_doubles_tell_all(self):
        # Rows to one double go on alike: so rows that go on from all of them come to no other doubles.
        for one, other, _ in pairs_beside(122, 25):
            self.assertEqual(plain_contest(one, other, alike_parts, 4, False)[:2], plain_contest(one, other, alike_parts, 4)[:2])

    def test_alike_answers(self):
        # A plan with other names of sites, more lockers and carts that nobody needs answers alike, row by row.
        some = 0
        for plan, stock, rng in safe_houses(123, 30):
            one = House(plan, stock)
            more = stock + Stock({}, None, {gate: 1 for gate in plan.gates}, [1] * plan.lines, [0] * (plan.lines - 1))
            other = House(plan, more)
            self.assertIs(is_safe(plan, more), True)
            try:
                self.assertEqual(closer(one, other), "alike")
            except TooMany:
                continue
            some += 1
            for _ in range(5):
                row = some_row(rng, plan, 15, True)
                for answer, told in zip(played(plan, stock, row), played(plan, more, row)):
                    self.assertEqual(isinstance(answer, str), isinstance(told, str))
        self.assertGreater(some, 10)

    def test_others_who_are_there_are_not_asked(self):
        one, other = House(PLAN, FEW.stock), House(PLAN, FEW.stock)
        one.come("ann", "packed")
        self.assertTrue(alike(one, other))
        self.assertEqual(alike(one, other).table[0], ((), (), ((), (("gate", 0),), (0,)), ((), (("gate", 0),), (0,))))
        self.assertEqual(one.history, (("come", "ann", "packed"),))

    def test_closer(self):
        told = {}
        for one, other, _ in pairs_beside(124, 120):
            try:
                answer = closer(one, other)
            except TooMany:
                continue
            first, second = bool(never_more(one, other)), bool(never_more(other, one))
            self.assertEqual(answer, {(True, True): "alike", (True, False): "one", (False, True): "other", (False, False): "apart"}[first, second])
            self.assertEqual(closer(other, one), {"one": "other", "other": "one"}.get(answer, answer))
            try:
                self.assertIs(bool(alike(one, other)), answer == "alike")
            except TooMany:
                self.fail("alike looks at no more doubles than both")
            told[answer] = told.get(answer, 0) + 1
        self.assertEqual(sorted(told), ["alike", "apart", "one", "other"])
        self.assertGreater(min(told.values()), 3, told)

    def test_more_bays_are_never_less_for_places_alone(self):
        plan = Plan([Wish("a", [("bay", 0)])], [Site("bay", "hall", "gate")], Promise(Limit(3, a=1)))
        one, other = [House(plan, Stock({"bay": many}, None, None, [0])) for many in (1, 2)]
        self.assertEqual(closer(one, other), "other")
        self.assertEqual(closer(other, one), "one")
        self.assertIsNone(spoils(one, other.stock))
        self.assertEqual(never_more(one, other).row, ("a", "a"))

    def test_who_is_refused_stays_in_the_standing(self):
        # He counts until he goes: so with one bay the third event must be a going.
        plan = Plan([Wish("a", [("bay", 0)])], [Site("bay", "hall", "gate")], Promise(Limit(2, a=1)))
        house = House(plan, Stock({"bay": 1}, None, None, [0]))
        held, gone = ("a", ("bay", 0), ("bay", 0)), ("a", None, None)
        guests = [dict(double[0]) for double in alike(house, house).table]
        self.assertEqual(guests, [{}, {held: 1}, {held: 1, gone: 1}, {gone: 1}])


class SpoilsTest(StayTest):
    def things(self, house):
        """All things, each with the stock that has one more of it, in their order."""
        plan, stock = house.plan, house.stock
        for site in sorted(site.name for site in plan.sites):
            yield f"bay {site}", stock.with_bays(stock.bays + Counts.of({site: 1}))
        for hall in sorted({site.hall for site in plan.sites}):
            for size in range(1, 10):
                yield f"locker {hall} {size}", stock.with_rack(hall, stock.rack(hall) + Rack.of({size: 1}))
        for gate in sorted({site.gate for site in plan.sites}):
            yield f"cart {gate}", stock.with_carts(gate, stock.carts[gate] + 1)
        for line in range(1, plan.lines + 1):
            yield f"sum {line}", stock.with_sum(line, stock.sums[line - 1] + 1)
        for line in range(1, plan.lines):
            yield f"cap {line}", stock.with_cap(line, stock.caps[line - 1] + 1)

    def test_spoilers(self):
        some, kinds = 0, set()
        for house, _, _ in pairs_beside(125, 70):
            expected = []
            try:
                for thing, stock in self.things(house):
                    told = spoils(house, stock)
                    if told is not None:
                        self.assertIs(type(told), More)
                        self.assertEqual(told, never_more(House(house.plan, stock), house))
                        expected.append((thing, told.row))
            except TooMany:
                continue
            self.assertEqual(list(spoilers(house)), expected)
            some += bool(expected)
            kinds |= {thing.split()[0] for thing, _ in expected}
        self.assertGreater(some, 5)
        self.assertGreaterEqual(kinds, {"bay", "locker"})

    def test_all_kinds_of_things(self):
        # With one cart, or one unit, more an early guest is taken who then keeps the bay from a later one.
        plan = Plan([Wish("a", [("bay", 0)], cart=True, price=1), Wish("b", [("bay", 0)])], [Site("bay", "hall", "gate", 2), Site("nook", "hall", "back", 1)],
                    Promise(Limit(2, a=1, b=1)))
        lines = Stock({"bay": 1}, None, {"gate": 5}, [0, 0], [0])
        carts = Stock({"bay": 1}, None, None, [9, 9], [0])
        self.assertEqual(dict(spoilers(House(plan, carts))), {"cart gate": ("a", "b")})
        self.assertEqual(dict(spoilers(House(plan, lines))), {"sum 2": ("a", "b")})
        self.assertEqual(list(spoilers(House(plan, lines.with_sum(1, 1)))), [("sum 2", ("a", "b")), ("cap 1", ("a", "b"))])

    def test_things_of_gates_back(self):
        # A gate to which carts come, but where nobody takes one, is looked at by nobody.
        plan = Plan([Wish("a", [("bay", 0)], cart=True, back="back")], [Site("bay", "hall", "gate")], Promise(Limit(2, a=1)))
        house = House(plan, Stock({"bay": 1}, None, None, [0]))
        self.assertEqual(plan.gates, ("back", "gate"))
        self.assertEqual(list(spoilers(house)), [])

    def test_the_stock_when_the_first_one_is_requested(self):
        house = House(PLAN, MORE.stock)
        told = spoilers(house)
        house.stock = FEW.stock
        first = next(told)
        house.stock = MORE.stock
        self.assertEqual([first] + list(told), list(spoilers(FEW)))

    def test_errors_come_ahead_of_the_first_one(self):
        # One bay more spoils at once; one more in the sum makes no row less, of too many doubles.
        wishes = [Wish("light", [("bay", 0)]), Wish("packed", [("bay", 0)], size=1), Wish("payer", [("nook", 0)], price=1)]
        sites = [Site("bay", "hall", "gate", 1), Site("nook", "attic", "gate", 1)]
        promise = Promise(Limit(3, light=1, packed=1, payer=3))
        house = House(Plan(wishes, sites, promise), Stock({"bay": 2, "nook": 1}, {"hall": [1]}, None, [10 ** 9]))
        self.assertEqual(spoils(house, house.stock.with_bays({"bay": 3, "nook": 1})).row, ("light", "light", "packed", 0, "packed"))
        self.raises(TooMany("standings", 20000), lambda: next(spoilers(house)))
        self.assertEqual(next(spoilers(House(house.plan, house.stock.with_sum(1, 9))))[0], "bay bay")

    def test_same_stock(self):
        for house, _, _ in pairs_beside(126, 30):
            try:
                self.assertIsNone(spoils(house, house.stock))
            except TooMany:
                pass

    def test_rows_of_more(self):
        for house, _, _ in pairs_beside(127, 30):
            try:
                told = list(spoilers(house))
            except TooMany:
                continue
            stocks = dict(self.things(house))
            for thing, row in told:
                self.assertIsInstance(played(house.plan, stocks[thing], row)[-1], str)
                self.assertNotIsInstance(played(house.plan, house.stock, row)[-1], str)

    def test_no_shorter_row(self):
        more = House(PLAN, MORE.stock)
        row = spoils(FEW, MORE.stock).row
        for other in let_rows(PLAN, len(row)):
            if other and isinstance(other[-1], str) and (len(other) < len(row) or other == row):
                spoiled = isinstance(played(PLAN, more.stock, other)[-1], str) and not isinstance(played(PLAN, FEW.stock, other)[-1], str)
                self.assertIs(spoiled, other == row)


if __name__ == "__main__":
    unittest.main()
