"""Beats of wholes, and rows that are played."""

import random
import unittest

from helpers import ANY, StayTest
from plain import PlainHouse, some_plan, some_row, some_stock

from stayhouse.beats import Given, asked, begin, behind_coming, behind_going
from stayhouse.errors import BadHouse, BadRow, BadRule, BadStock, NoGuest, NoWish
from stayhouse.fittings import By
from stayhouse.limits import Limit
from stayhouse.plans import Plan
from stayhouse.plays import first_refusal, played, whole_behind
from stayhouse.promises import Promise
from stayhouse.sites import Site
from stayhouse.stock import Stock
from stayhouse.wishes import Wish

SITES = [Site("near", "east", "front", 1), Site("far", "east", "back", 1)]
WISHES = [Wish("rider", [("near", 0), ("far", 0)], cart=True, price=5), Wish("walker", [("far", 0)], size=2)]
PLAN = Plan(WISHES, SITES, Promise(Limit(3, rider=1, walker=1)))
STOCK = Stock({"near": 1, "far": 2}, {"east": {1: 1, 3: 1}}, {"front": 2}, [8])
EMPTY = ((), (("back", 0), ("front", 2)), (0,))


def houses(seed, many):
    """Small plans with stocks, always the same ones for a seed."""
    rng = random.Random(seed)
    for _ in range(many):
        plan = some_plan(rng)
        yield plan, some_stock(rng, plan), rng


# What a stock for PLAN must not be, and the part that is told.
NO_STOCKS = [
    (STOCK.with_bays({"mid": 1}), "bays"), (STOCK.with_bays({"near": 1, "east": 1}), "bays"), (STOCK.with_rack("west", [1]), "racks"),
    (STOCK.with_carts("side", 1), "carts"), (STOCK.with_carts("east", 1), "carts"), (Stock({}), "sums"), (Stock({}, None, None, [1, 2], [3]), "sums"),
    (Stock({"mid": 1}, {"west": [1]}, {"side": 1}), "bays"), (Stock({}, {"west": [1]}, {"side": 1}), "racks"), (Stock({}, None, {"side": 1}), "carts"),
]


class ErrorsTest(StayTest):
    def calls(self, plan, stock):
        return [(begin, (plan, stock)), (asked, (plan, stock, EMPTY, 5)), (behind_coming, (plan, stock, EMPTY, 5)),
                (behind_going, (plan, stock, EMPTY, 5)), (played, (plan, stock, 5)), (first_refusal, (plan, stock, 5)),
                (whole_behind, (plan, stock, 5))]

    def test_plan_and_stock(self):
        for value in ANY:
            for function, arguments in self.calls(value, 5):
                self.raises(BadHouse("plan"), function, *arguments)
            for function, arguments in self.calls(PLAN, value):
                self.raises(BadHouse("stock"), function, *arguments)
        for stock, part in NO_STOCKS:
            for function, arguments in self.calls(PLAN, stock):
                self.raises(BadStock(part), function, *arguments)

    def test_what_is_not_there_is_not_told(self):
        stock = Stock({"mid": 0, "near": 1}, {"west": [0, 0]}, {"side": 0}, [1])
        self.assertEqual(begin(PLAN, stock), ((), (("back", 0), ("front", 0)), (0,)))

    def test_no_wish(self):
        for value in ANY + ["riders", "near"]:
            self.raises(NoWish(value), asked, PLAN, STOCK, EMPTY, value)
            self.raises(NoWish(value), behind_coming, PLAN, STOCK, EMPTY, value)

    def test_no_guest(self):
        whole = whole_behind(PLAN, STOCK, ("walker",))
        thing = ("walker", "far", 3)
        self.assertEqual(whole[0], ((thing, 1),))
        for value in ANY + [list(thing), thing + (1,), thing[:2], ("walker", "far", 1), ("walker", "near", 3), ("rider", "far", 3), (thing, 1),
                            ("walker", "far", 3.5), ("walker", "far", "3"), ("walker", "far", None)]:
            self.raises(NoGuest(value), behind_going, PLAN, STOCK, whole, value)
            self.raises(NoGuest(value), behind_going, PLAN, STOCK, EMPTY, value)
        self.raises(NoGuest(thing), behind_going, PLAN, STOCK, EMPTY, thing)
        self.assertEqual(behind_going(PLAN, STOCK, whole, thing), EMPTY)
        ride = whole_behind(PLAN, STOCK, ("rider",))
        self.raises(NoGuest(("rider", "near", False)), behind_going, PLAN, STOCK, ride, ("rider", "near", False))
        self.assertEqual(behind_going(PLAN, STOCK, ride, ("rider", "near", 0)), ((), (("back", 0), ("front", 2)), (5,)))

    def test_rows(self):
        for value in ANY:
            if not isinstance(value, (list, tuple)):
                for function in (played, first_refusal, whole_behind):
                    self.raises(BadRow("row"), function, PLAN, STOCK, value)
        cases = [(("rider", "guide"), 1), (("rider", 1), 1), (("rider", 0, 0), 2), ([0], 0), (("rider", True), 1), (("rider", -1), 1),
                 (["rider", None], 1), ((["rider"],), 0), (("guide", 5), 0), (("rider", "rider", 2, "guide"), 2), (("near",), 0), (("rider", ()), 1)]
        for row, at in cases:
            for function in (played, first_refusal, whole_behind):
                self.raises(BadRow(at), function, PLAN, STOCK, row)

    def test_by_name(self):
        told = {"plan": PLAN, "stock": STOCK}
        given = Given(site="near", locker=0, gate="front", line=1)
        self.assertEqual((begin(**told), asked(whole=EMPTY, wish="rider", **told)), (EMPTY, given))
        whole = behind_coming(whole=EMPTY, wish="rider", **told)
        self.assertEqual(behind_going(whole=whole, thing=("rider", "near", 0), **told)[2], (5,))
        self.assertEqual(played(row=["rider"], **told), (given,))
        self.assertEqual((first_refusal(row=(), **told), whole_behind(row=(), **told)), (None, EMPTY))


class BeatsTest(StayTest):
    def test_against_a_plain_keeping_of_the_parts(self):
        refused = {}
        for plan, stock, rng in houses(91, 150):
            row = some_row(rng, plan, 12, rng.random() < 0.5)
            plain = PlainHouse(plan, stock)
            whole, answers = begin(plan, stock), []
            self.same(whole, plain.whole())
            for at, event in enumerate(row):
                if isinstance(event, str):
                    told = plain.come(event)
                    answer = told if isinstance(told, str) else Given(*told)
                    self.assertEqual(asked(plan, stock, whole, event), answer)
                    behind = behind_coming(plan, stock, whole, event)
                    self.assertIs(behind is None, isinstance(told, str))
                    if isinstance(told, str):
                        refused[told] = refused.get(told, 0) + 1
                    whole = whole if behind is None else behind
                else:
                    held = plain.go(event)
                    answer = None if held is None else Given(*held)
                    if held is not None:
                        whole = behind_going(plan, stock, whole, (plain.guests[event][0], held[0], held[1]))
                answers.append(answer)
                self.same(whole, plain.whole())
                self.same(whole_behind(plan, stock, row[:at + 1]), whole)
            self.assertEqual(played(plan, stock, row), tuple(answers))
            self.assertEqual(played(plan, stock, list(row)), tuple(answers))
            first = [(at, answer) for at, answer in enumerate(answers) if isinstance(answer, str)]
            self.assertEqual(first_refusal(plan, stock, row), first[0] if first else None)
        self.assertEqual(sorted(refused), ["carts", "lockers", "places", "purse"])
        self.assertGreater(min(refused.values()), 30)

    def test_given(self):
        plan = Plan([Wish("a", [("s", 0)], size=2, cart=True, back="t", price=1), Wish("b", [("s", 0)])], [Site("s", "h", "g", 2)],
                    Promise(Limit(9, a=1, b=1)))
        stock = Stock({"s": 2}, {"h": [5, 0, 1]}, {"g": 1}, [0, 1], [0])
        whole = begin(plan, stock)
        self.assertEqual(whole, ((), (("g", 1), ("t", 0)), (0, 0)))
        self.assertEqual(asked(plan, stock, whole, "a"), Given("s", 3, "g", 2))
        self.assertEqual(asked(plan, stock, whole, "b"), Given("s", 0, None, None))
        behind = behind_coming(plan, stock, whole, "a")
        self.assertEqual(behind, (((("a", "s", 3), 1),), (("g", 0), ("t", 0)), (0, 1)))
        self.assertEqual(behind_going(plan, stock, behind, ("a", "s", 3)), ((), (("g", 0), ("t", 1)), (0, 1)))

    def test_order_of_the_parts(self):
        # All four parts would refuse him; one after the other gets enough.
        plan = Plan([Wish("a", [("s", 0)], size=1, cart=True, price=1)], [Site("s", "h", "g")], Promise(Limit(9, a=1)))
        stock = Stock({}, None, None, [0])
        for part, more in (("places", stock.with_bays({"s": 1})), ("lockers", None), ("carts", None), ("purse", None)):
            self.assertEqual(asked(plan, stock, begin(plan, stock), "a"), part)
            self.assertIs(behind_coming(plan, stock, begin(plan, stock), "a"), None)
            stock = more or {"lockers": stock.with_rack("h", [1]), "carts": stock.with_carts("g", 1), "purse": stock.with_sum(1, 1)}[part]
        self.assertEqual(asked(plan, stock, begin(plan, stock), "a"), Given("s", 1, "g", 1))

    def test_who_is_refused_holds_nothing(self):
        # The rider who finds no cart keeps no bay: so the walker behind him gets it.
        stock = STOCK.with_bays({"near": 1, "far": 1})
        row = ("rider", "rider", "walker", 1, 0, "rider")
        front = Given("near", 0, "front", 1)
        self.assertEqual(played(PLAN, stock, row), (front, "carts", Given("far", 3, None, None), None, front, "purse"))
        self.assertEqual(whole_behind(PLAN, stock, row), (((("walker", "far", 3), 1),), (("back", 0), ("front", 2)), (5,)))

    def test_rows_that_are_not_let(self):
        self.assertEqual(played(PLAN, STOCK, ("walker",) * 5), (Given("far", 3, None, None),) + ("lockers",) + ("lockers",) * 3)
        self.assertEqual(first_refusal(PLAN, STOCK.with_rack("east", [0, 9]), ("walker",) * 5), (2, "places"))
        self.assertIs(first_refusal(PLAN, STOCK, ("walker", 0) * 1 + ("walker", 1)), None)

    def test_long_rows(self):
        plan = Plan([Wish("a", [("s", 0)], size=1, cart=True, price=1)], [Site("s", "h", "g")], Promise(Limit(9, a=1)))
        stock = Stock({"s": 1}, {"h": [1]}, {"g": 1}, [9999])
        row = [event for number in range(10000) for event in ("a", number)]
        self.assertEqual(first_refusal(plan, stock, row), (19998, "purse"))
        self.assertEqual(whole_behind(plan, stock, row + ["a"]), ((), (("g", 1),), (9999,)))
        self.assertEqual(len(played(plan, stock, row)), 20000)

    def test_fitting_that_fails(self):
        plan = PLAN.with_fitting("east", By(lambda free, size: 9))
        self.raises(BadRule("locker"), asked, plan, STOCK, EMPTY, "walker")
        self.raises(BadRule("locker"), behind_coming, plan, STOCK, EMPTY, "walker")
        self.raises(BadRule("locker"), played, plan, STOCK, ("rider", "walker"))
        self.assertEqual(asked(plan, STOCK, EMPTY, "rider"), Given("near", 0, "front", 1))


if __name__ == "__main__":
    unittest.main()
