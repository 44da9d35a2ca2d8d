"""Judging houses: safe ones, the least rows that are refused, needs and least stocks."""

import random
import unittest

from stayhouse.cart_needs import CartNeed, need_of
from stayhouse.counts import Counts
from stayhouse.errors import BadHouse, BadRule, BadStock, NoBay, TooMany, Unbounded
from stayhouse.fittings import By, Order
from stayhouse.judge import Needs, Safe, Unsafe, is_safe, judge, least_stocks, needs, shortest_refusal
from stayhouse.limits import Limit, YearLimit
from stayhouse.line_needs import LineNeed, least_sums, line_needs
from stayhouse.lines import Lines
from stayhouse.lockers import Fits, judged_hall, least_racks
from stayhouse.look_judge import shows_judge
from stayhouse.places import Housed, judged_places, least_bays
from stayhouse.plans import Plan
from stayhouse.plays import first_refusal
from stayhouse.promises import Promise
from stayhouse.racks import Rack
from stayhouse.sites import Site
from stayhouse.stock import Stock
from stayhouse.wishes import Wish

from helpers import ANY, StayTest
from plain import plain_play, plain_refusal, some_plan, some_row
from test_beats import NO_STOCKS, PLAN, STOCK, houses
from test_places import no_bays

LONE = Plan([Wish("a", [("s", 0)], size=1, cart=True, back="t", price=2)], [Site("s", "h", "g")], Promise(Limit(2, a=1), YearLimit(3, a=1)))
ENOUGH = Stock({"s": 2}, {"h": [2]}, {"g": 3}, [6])


def safe_houses(seed, many):
    """Small plans with least stocks for some least bays, always the same ones for a seed."""
    rng = random.Random(seed)
    found = 0
    while found < many:
        plan = some_plan(rng)
        try:
            bays = rng.choice(least_bays(plan))
            caps = [rng.randint(0, 5) for _ in range(plan.lines - 1)]
            stocks = list(least_stocks(plan, bays, caps))
        except (TooMany, Unbounded):
            continue
        if stocks:
            found += 1
            yield plan, rng.choice(stocks), rng


def one_less(stock):
    """All stocks with one cart, one unit of a sum, one locker less."""
    for gate in stock.carts:
        yield stock.with_carts(gate, stock.carts[gate] - 1)
    for line, amount in enumerate(stock.sums, start=1):
        if amount > 0:
            yield stock.with_sum(line, amount - 1)
    for hall, rack in stock.racks:
        for size in rack:
            yield stock.with_rack(hall, rack - Rack.of({size: 1}))


class ErrorsTest(StayTest):
    def test_plan_and_stock(self):
        for function in (judge, is_safe, shortest_refusal):
            for value in ANY:
                self.raises(BadHouse("plan"), function, value, 5)
                self.raises(BadHouse("stock"), function, PLAN, value)
            for stock, part in NO_STOCKS:
                self.raises(BadStock(part), function, PLAN, stock)

    def test_plan_and_bays(self):
        for value in ANY:
            self.raises(BadHouse("plan"), needs, value, 5)
            self.raises(BadHouse("plan"), lambda: next(least_stocks(value, 5, 5)))
        for value in no_bays(LONE):
            self.raises(BadStock("bays"), needs, LONE, value)
            self.raises(BadStock("bays"), lambda: next(least_stocks(LONE, value, 5)))

    def test_caps(self):
        two = Plan([Wish("a", [("s", 0)])], [Site("s", "h", "g", 2)], Promise(Limit(2, a=1)))
        for value in ANY + [[1, 2], [-1], [True], [None], ["1"]]:
            for plan, bays in ((two, {"s": 1}), (two, {"s": 2})):
                if isinstance(value, (list, tuple)) and len(value) == 1 and type(value[0]) is int and value[0] >= 0:
                    continue
                # Ahead of NoBay.
                self.raises(BadStock("caps"), lambda: next(least_stocks(plan, bays, value)))
        self.assertEqual(len(list(least_stocks(two, {"s": 2}, (10 ** 39,)))), 1)
        self.raises(BadStock("caps"), lambda: next(least_stocks(LONE, {"s": 2}, (0,))))
        self.raises(NoBay("a"), lambda: next(least_stocks(two, {"s": 1}, (0,))))

    def test_by_name(self):
        told = {"plan": LONE, "stock": ENOUGH}
        self.assertEqual((is_safe(**told), shortest_refusal(**told), bool(judge(**told))), (True, None, True))
        self.assertEqual(needs(plan=LONE, bays={"s": 2}).carts, {"g": 3, "t": 0})
        self.assertEqual(list(least_stocks(plan=LONE, bays={"s": 2}, caps=())), [ENOUGH])

    def test_no_bay_and_no_end(self):
        wishes = [Wish("c", [("s", 0)]), Wish("b", [("s", 0)])]
        plan = Plan(wishes, [Site("s", "h", "g")], Promise(Limit(2, b=1, c=1)))
        self.raises(NoBay("c"), needs, plan, {"s": 1})
        self.raises(NoBay("c"), lambda: next(least_stocks(plan, {"s": 1}, [])))
        both = LONE.with_promise(Promise(Limit(1, a=1)))
        found = needs(both, {"s": 1})
        self.assertEqual(found, Needs({"g": None, "t": 0}, {(1, 1): None}))
        self.raises(Unbounded("carts"), lambda: next(least_stocks(both, {"s": 1}, [])))
        paid = both.with_wish(Wish("a", [("s", 0)], size=1, price=2))
        self.assertEqual(needs(paid, {"s": 1}), Needs({"g": 0}, {(1, 1): None}))
        self.raises(Unbounded("sums"), lambda: next(least_stocks(paid, {"s": 1}, [])))

    def test_20000_knots_and_more(self):
        plan = Plan([Wish("a", [("s", 0)], price=1)], [Site("s", "h", "g")], Promise(Limit(1, a=1), YearLimit(9999, a=1)))
        stock = Stock({"s": 1}, None, None, [9999])
        found = judge(plan, stock)
        self.assertEqual((len(found.places.knots), len(found.lockers["h"].knots), found.sums[(1, 1)].number), (19999, 19999, 9999))
        self.assertIs(is_safe(plan, stock), True)
        self.assertIs(is_safe(plan, stock.with_sum(1, 9998)), False)
        self.assertIs(shows_judge(plan, stock, found), True)
        self.assertEqual(len(shortest_refusal(plan, stock.with_sum(1, 9998))), 19997)
        great = plan.with_promise(Promise(Limit(1, a=1), YearLimit(10000, a=1)))
        for function in (judge, is_safe, shortest_refusal):
            self.raises(TooMany("knots", 20000), function, great, stock)
            # Also where a part refuses somebody early.
            self.raises(TooMany("knots", 20000), function, great, stock.with_sum(1, 0))
        self.raises(TooMany("knots", 20000), needs, great, {"s": 1})
        self.raises(TooMany("knots", 20000), lambda: next(least_stocks(great, {"s": 1}, [])))

    def test_knots_of_a_hall(self):
        # Places alone have few knots; with the lockers, whose sizes are told apart, there are more than 20,000.
        wishes = [Wish(name, [("s", 0)], size=1) for name in "ab"]
        plan = Plan(wishes, [Site("s", "h", "g")], Promise(Limit(14, a=1, b=1)), {"h": By(lambda free, size: max(free, key=lambda at: free[at]) if len(free) else None)})
        stock = Stock({"s": 14}, {"h": [14] * 9}, None, [0])
        self.raises(TooMany("knots", 20000), judge, plan, stock)
        self.raises(TooMany("knots", 20000), is_safe, plan, stock)

    def test_fittings_that_fail(self):
        plan = LONE.with_fitting("h", By(lambda free, size: 9))
        for function in (judge, is_safe, shortest_refusal):
            self.raises(BadRule("locker"), function, plan, ENOUGH)


class JudgeTest(StayTest):
    def test_against_plain_trying(self):
        safe, parts = 0, {}
        for plan, stock, rng in houses(101, 250):
            found, looked = plain_refusal(plan, stock, 7, 300)
            told = judge(plan, stock)
            self.assertIs(is_safe(plan, stock), bool(told))
            if told:
                self.assertIs(type(told), Safe)
                self.assertIs(shortest_refusal(plan, stock), None)
                self.assertIs(found, None)
                safe += 1
            else:
                self.assertIs(type(told), Unsafe)
                self.assertEqual(shortest_refusal(plan, stock), told.row)
                self.assertIs(type(told.row), tuple)
                if len(told.row) <= looked:
                    self.assertEqual((told.row, told.part), found)
                else:
                    self.assertIs(found, None)
                parts[told.part] = parts.get(told.part, 0) + 1
            self.assertIs(shows_judge(plan, stock, told), True)
        self.assertEqual(sorted(parts), ["carts", "lockers", "places", "purse"])
        self.assertGreater(min(parts.values()), 5)
        self.assertGreater(safe, 3)

    def test_safe_houses_refuse_nobody(self):
        for plan, stock, rng in safe_houses(102, 50):
            self.assertIs(is_safe(plan, stock), True)
            for _ in range(10):
                row = some_row(rng, plan, 20, True)
                self.assertIs(first_refusal(plan, stock, row), None)
            self.assertIs(plain_refusal(plan, stock, 7, 150)[0], None)
            # More carts, and more in a sum, never hurt.
            self.assertIs(is_safe(plan, stock + Stock({}, None, {gate: 3 for gate in plan.gates}, [1] * plan.lines, [1] * (plan.lines - 1))), True)

    def test_papers_of_safe_houses(self):
        for plan, stock, _ in safe_houses(103, 40):
            found = judge(plan, stock)
            bays = stock.bays
            self.assertEqual(found.places, judged_places(plan, bays))
            self.assertIs(type(found.places), Housed)
            self.assertEqual(list(found.lockers), list(plan.halls))
            for hall in plan.halls:
                self.assertIs(type(found.lockers[hall]), Fits)
                self.assertEqual(found.lockers[hall], judged_hall(plan, bays, hall, stock.rack(hall)))
            self.assertEqual(set(found.carts), set(plan.gates))
            for gate in plan.gates:
                self.assertIs(type(found.carts[gate]), CartNeed)
                self.assertEqual(found.carts[gate], need_of(plan, bays, gate))
                self.assertEqual(found.carts[gate].number, stock.carts[gate])
            lines = Lines(stock.sums, stock.caps)
            told = line_needs(plan, bays)
            self.assertEqual(set(found.sums), set(told))
            for pair in told:
                self.assertIs(type(found.sums[pair]), LineNeed)
                self.assertEqual(found.sums[pair].number, told[pair])
                self.assertLessEqual(told[pair], lines.reach(*pair))

    def test_least_stocks_with_one_less(self):
        fewer = 0
        for plan, stock, _ in safe_houses(104, 40):
            for other in one_less(stock):
                found = judge(plan, other)
                self.assertFalse(found)
                answers = plain_play(plan, other, found.row)
                self.assertEqual(answers[-1], found.part)
                self.assertFalse(any(isinstance(answer, str) for answer in answers[:-1]))
                fewer += 1
        self.assertGreater(fewer, 60)

    def test_least_stocks_in_order(self):
        plan = Plan([Wish("bag", [("bay", 0), ("nook", 0)], size=1), Wish("box", [("bay", 0), ("nook", 0)], size=2)],
                    [Site("bay", "hall", "gate"), Site("nook", "attic", "gate")], Promise(Limit(3, bag=1, box=1), Limit(1, box=1)))
        bays = {"bay": 2, "nook": 1}
        halls = [least_racks(plan, bays, hall) for hall in plan.halls]
        self.assertGreater(min(len(racks) for racks in halls), 0)
        self.assertGreater(max(len(racks) for racks in halls), 1)
        told = [(stock.rack("attic"), stock.rack("hall")) for stock in least_stocks(plan, bays, [])]
        self.assertEqual(told, [(one, other) for one in halls[0] for other in halls[1]])
        for stock in least_stocks(plan, Counts.of(bays), ()):
            self.assertEqual((stock.bays, stock.carts, stock.sums, stock.caps), (Counts.of(bays), Counts(), least_sums(plan, bays, ()), ()))
            self.assertIs(is_safe(plan, stock), True)

    def test_no_rack_is_enough(self):
        plan = Plan([Wish("bag", [("bay", 0)], size=1)], [Site("bay", "hall", "gate")], Promise(Limit(1, bag=1)), {"hall": Order({})})
        self.assertEqual(list(least_stocks(plan, {"bay": 1}, [])), [])

    def test_works_on_the_arguments_as_they_are_then(self):
        bays, caps = {"bay": 1}, []
        plan = Plan([Wish("bag", [("bay", 0)], size=1)], [Site("bay", "hall", "gate")], Promise(Limit(2, bag=1)))
        told = least_stocks(plan, bays, caps)
        bays["bay"] = 2
        found = next(told)
        bays["bay"] = 0
        caps.append(7)
        self.assertEqual([found] + list(told), list(least_stocks(plan, {"bay": 2}, [])))

    def test_needs(self):
        for plan, stock, _ in safe_houses(105, 40):
            found = needs(plan, stock.bays)
            self.assertIs(type(found), Needs)
            self.assertEqual(found, Needs({gate: need_of(plan, stock.bays, gate).number for gate in plan.gates}, line_needs(plan, stock.bays)))
            self.assertEqual(set(found.carts), set(plan.gates))

    def test_no_knot_behind_a_refusal(self):
        # Places refuse the second guest; a cart would be lacking for him, too, and for a third one.
        plan = Plan([Wish("a", [("s", 0)], cart=True)], [Site("s", "h", "g")], Promise(Limit(3, a=1)))
        self.assertEqual(judge(plan, Stock({"s": 1}, None, {"g": 1}, [0])), Unsafe(("a", "a"), "places"))
        self.assertEqual(judge(plan, Stock({"s": 2}, None, {"g": 1}, [0])), Unsafe(("a", "a"), "carts"))
        self.assertEqual(judge(plan, Stock({"s": 2}, None, {"g": 2}, [0])), Unsafe(("a", "a", "a"), "places"))
        self.assertEqual(judge(plan, Stock({}, None, None, [0])), Unsafe(("a",), "places"))

    def test_all_parts_refuse_him(self):
        plan = Plan([Wish("a", [("s", 0)], size=1, cart=True, price=1)], [Site("s", "h", "g")], Promise(Limit(1, a=1), YearLimit(1, a=1)))
        stock = Stock({}, None, None, [0])
        for part, more in (("places", {"bays": {"s": 1}}), ("lockers", {"racks": {"h": [1]}}), ("carts", {"carts": {"g": 1}}), ("purse", {"sums": [1]})):
            self.assertEqual(judge(plan, stock), Unsafe(("a",), part))
            told = {"bays": stock.bays, "racks": dict(stock.racks), "carts": stock.carts, "sums": stock.sums, **more}
            stock = Stock(**told)
        self.assertTrue(judge(plan, stock))

    def test_nobody_comes(self):
        plan = LONE.with_promise(Promise(Limit(0, a=1)))
        stock = Stock({}, None, None, [0])
        found = judge(plan, stock)
        begin = ((), ())
        self.assertEqual(found.places, Housed((begin,)))
        self.assertEqual(found, Safe(Housed((begin,)), {"h": Fits(((begin, ()),))}, {gate: CartNeed(0, {begin: 0}, ()) for gate in "gt"},
                                     {(1, 1): LineNeed(0, {begin: 0}, ())}))
        self.assertEqual(needs(plan, {}), Needs({"g": 0, "t": 0}, {(1, 1): 0}))
        self.assertEqual(list(least_stocks(plan, {}, [])), [stock])

    def test_rows_without_end(self):
        # Each guest takes a cart from the front to the back: the fourth one finds none.
        plan = LONE.with_promise(Promise(Limit(1, a=1)))
        self.assertEqual(judge(plan, ENOUGH.with_sum(1, 99)), Unsafe(("a", 0, "a", 1, "a", 2, "a"), "carts"))
        self.assertEqual(judge(plan, ENOUGH.with_carts("g", 99)), Unsafe(("a", 0, "a", 1, "a", 2, "a"), "purse"))
        self.assertIs(is_safe(plan, ENOUGH), False)

    def test_more_than_may_be_told_as_bays(self):
        stock = ENOUGH.with_bays({"s": 10 ** 39})
        found = judge(LONE, stock)
        self.assertTrue(found)
        self.assertIs(shows_judge(LONE, stock, found), True)

    def test_carts_that_come_from_elsewhere(self):
        # Carts come to the gate g with those who go: so far fewer needs come about there than pairs.
        wishes = [Wish("to", [("s", 0)], cart=True, back="h"), Wish("back", [("t", 0)], cart=True, back="g")]
        plan = Plan(wishes, [Site("s", "x", "g"), Site("t", "x", "h")], Promise(Limit(1, to=1), Limit(1, back=1), YearLimit(4, to=1), YearLimit(4, back=1)))
        stock = Stock({"s": 1, "t": 1}, None, {"g": 3, "h": 4}, [0])
        found, _ = plain_refusal(plan, stock, 8, 10 ** 6)
        self.assertEqual(judge(plan, stock), Unsafe(*found))
        self.assertEqual(found[1], "carts")


class RowsTest(StayTest):
    def test_many_pairs_of_a_knot_and_a_need(self):
        # Many needs come about at each knot ahead of the refusal of another part: then it is told without all of them.
        wishes = [Wish(name, [("s", 0)], price=10 ** at, size=at // 7) for at, name in enumerate("abcdefgh")]
        promise = Promise(Limit.of(1, {name: 1 for name in "abcdefgh"}))
        plan = Plan(wishes, [Site("s", "hall", "g")], promise)
        stock = Stock({"s": 1}, None, None, [10 ** 12])
        self.assertEqual(judge(plan, stock), Unsafe(("h",), "lockers"))
        self.assertIs(is_safe(plan, stock.with_rack("hall", [1])), False)
        # Not specified is whether there are too many rows; if there are not, the row is right.
        try:
            row = shortest_refusal(plan, stock.with_rack("hall", [1]))
            self.assertEqual(len(row), 2 * 10 ** 5 + 1)
        except TooMany as error:
            self.assertEqual((error.what, error.most), ("rows", 20000))

    def test_no_more_pairs_than_20000(self):
        # One wish, one knot with and one without a guest: the 10,000th guest cannot pay.
        plan = Plan([Wish("a", [("s", 0)], price=1)], [Site("s", "hall", "g")], Promise(Limit(1, a=1)))
        found = judge(plan, Stock({"s": 1}, None, None, [9999]))
        self.assertEqual((found.part, len(found.row)), ("purse", 19999))
        self.assertEqual(shortest_refusal(plan, Stock({"s": 1}, None, None, [9999])), found.row)


if __name__ == "__main__":
    unittest.main()
