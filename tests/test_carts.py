"""Carts taken and given back, needs of gates, and their papers that are looked at."""

import random
import unittest
from itertools import product

from helpers import ANY, GREATEST, StayTest
from plain import gate_adds, keeps, let_rows, plain_need, plan_sites, plans_and_bays, some_plan
from plain_looks import changed_once, plain_need_paper, plain_ring_paper
from test_places import no_bays

from stayhouse.cart_needs import CartNeed, CartRing, most_out, need_of, own_need
from stayhouse.carts import back_of, gate_for, give, take
from stayhouse.counts import Counts
from stayhouse.errors import BadHouse, BadStock, NoBay, NoGate, NoSite, NoWish, Refused, TooMany
from stayhouse.limits import Limit, YearLimit
from stayhouse.look_carts import shows_need
from stayhouse.places import PlaceWeb
from stayhouse.plans import Plan
from stayhouse.promises import Promise
from stayhouse.sites import Site
from stayhouse.wishes import Wish

SITES = [Site("near", "east", "front"), Site("far", "east", "back")]
WISHES = [Wish("rider", [("near", 0), ("far", 0)], cart=True), Wish("guide", [("near", 0)], cart=True, back="back")]
TWOS = Limit(2, rider=1, guide=1)
FREE = Plan(WISHES, SITES, Promise(TWOS, Limit(1, guide=1)))
PLAN = Plan(WISHES, SITES, Promise(TWOS, Limit(1, guide=1), YearLimit(3, guide=1)))
BAYS = {"near": 2, "far": 1}
BEGIN = ((), ())


def lone(back, *limits):
    """A plan of one wish and one site, with a gate back."""
    return Plan([Wish("a", [("s", 0)], cart=True, back=back)], [Site("s", "h", "g")], Promise(*limits))


class CartsTest(StayTest):
    def test_errors_in_order(self):
        for value in ANY:
            for function in (gate_for, back_of):
                self.raises(BadHouse("plan"), function, value, 5, 5)
                self.raises(NoWish(value), function, PLAN, value, 5)
                self.raises(NoSite(value), function, PLAN, "rider", value)
            for function in (take, give):
                self.raises(BadHouse("plan"), function, value, 5, 5, 5)
                if not isinstance(value, Counts):
                    self.raises(BadStock("carts"), function, PLAN, value, 5, 5)
                self.raises(NoWish(value), function, PLAN, Counts(), value, 5)
                self.raises(NoSite(value), function, PLAN, Counts(), "rider", value)

    def test_gates(self):
        plan = Plan([Wish("a", [("near", 0)], cart=True), Wish("b", [("near", 0)], cart=True, back="away"), Wish("c", [("near", 0)])],
                    SITES, Promise(Limit(1, a=1, b=1, c=1)))
        told = {name: [(gate_for(plan, name, site), back_of(plan, name, site)) for site in ("near", "far")] for name in "abc"}
        self.assertEqual(told, {"a": [("front", "front"), ("back", "back")], "b": [("front", "away"), ("back", "away")],
                                "c": [(None, None), (None, None)]})
        # Any site of the plan, not only of his picks, but no gate.
        self.raises(NoSite("front"), gate_for, plan, "a", "front")
        self.assertEqual(plan.gates, ("away", "back", "front"))

    def test_take_and_give(self):
        carts = Counts(front=2, back=1, elsewhr=7)
        self.assertEqual(take(PLAN, carts, "rider", "near"), Counts(front=1, back=1, elsewhr=7))
        self.assertEqual(take(PLAN, carts, "rider", "far"), Counts(front=2, elsewhr=7))
        self.assertEqual(give(PLAN, carts, "rider", "near"), Counts(front=3, back=1, elsewhr=7))
        self.assertEqual(give(PLAN, carts, "guide", "near"), Counts(front=2, back=2, elsewhr=7))
        self.raises(Refused("carts", "rider"), take, PLAN, Counts(front=9), "rider", "far")
        self.raises(Refused("carts", "guide"), take, PLAN, Counts(back=9), "guide", "near")
        none = Plan([Wish("a", [("near", 0)])], SITES, Promise(Limit(1, a=1)))
        for function in (gate_for, back_of):
            self.raises(NoSite("front"), function, none, "a", "front")
        for function in (take, give):
            self.raises(NoSite("front"), function, none, Counts(), "a", "front")
            self.assertEqual(function(none, Counts(), "a", "near"), Counts())
            self.assertEqual(function(none, carts, "a", "far"), carts)
        self.assertEqual(carts, Counts(front=2, back=1, elsewhr=7))
        self.assertEqual(give(PLAN, Counts(front=10 ** 39), "rider", "near"), Counts(front=10 ** 39 + 1))

    def test_by_name(self):
        self.assertEqual(gate_for(plan=PLAN, wish="guide", site="near"), "front")
        self.assertEqual(back_of(plan=PLAN, wish="guide", site="near"), "back")
        self.assertEqual(take(plan=PLAN, carts=Counts(front=1), wish="guide", site="near"), Counts())
        self.assertEqual(give(plan=PLAN, carts=Counts(), wish="guide", site="near"), Counts(back=1))


class NeedTest(StayTest):
    def test_errors_in_order(self):
        for value in ANY:
            self.raises(BadHouse("plan"), need_of, value, 5, 5)
            self.raises(NoGate(value), need_of, PLAN, BAYS, value)
            self.raises(BadHouse("plan"), shows_need, value, 5, 5, 5)
            self.raises(NoGate(value), shows_need, PLAN, BAYS, value, 5)
            self.raises(BadHouse("plan"), own_need, value, 5)
            self.raises(NoGate(value), own_need, PLAN, value)
            self.raises(BadHouse("plan"), most_out, value)
        plan = lone(None, Limit(2, a=1))
        for value in no_bays(plan):
            self.raises(BadStock("bays"), need_of, plan, value, 5)
            self.raises(BadStock("bays"), shows_need, plan, value, 5, 5)
        great = lone(None, Limit(20000, a=1))
        self.raises(NoGate("h"), need_of, great, {"s": 0}, "h")
        self.raises(TooMany("knots", 20000), need_of, great, {"s": 20000}, "g")
        # Of a house in which places refuse somebody, too.
        self.raises(TooMany("knots", 20000), need_of, lone(None, Limit(30000, a=1)), {"s": 20000}, "g")
        self.assertEqual(need_of(lone(None, Limit(19999, a=1)), {"s": 20000}, "g").number, 19999)

    def test_no_bay_in_the_order_of_the_plan(self):
        wishes = [Wish("c", [("s", 0)]), Wish("b", [("t", 0)], cart=True), Wish("a", [("t", 0)])]
        plan = Plan(wishes, [Site("s", "h", "g"), Site("t", "h", "g")], Promise(Limit(2, a=1, b=1, c=1)))
        self.raises(NoBay("c"), need_of, plan, {"s": 1, "t": 1}, "g")
        self.raises(NoBay("b"), need_of, plan, {"s": 2, "t": 1}, "g")
        self.raises(NoBay("b"), need_of, plan, {"s": 2}, "g")
        self.assertEqual(need_of(plan, {"s": 2, "t": 2}, "g").number, 2)
        for plan, bays, _ in plans_and_bays(41, 60):
            refused = [name for _, name in PlaceWeb(plan, bays).refused]
            if refused:
                self.raises(NoBay([name for name in plan.names if name in refused][0]), need_of, plan, bays, plan.gates[0])

    def test_against_plain_trying(self):
        rings = short = 0
        for plan, bays, _ in plans_and_bays(42, 100):
            web = PlaceWeb(plan, bays)
            for gate in plan.gates if web else ():
                paper = need_of(plan, bays, gate)
                number, row, heights = plain_need(plan, bays, gate_adds(plan, gate), 6)
                self.assertIs(shows_need(plan, bays, gate, paper), True)
                if paper:
                    self.assertIs(type(paper), CartNeed)
                    self.assertEqual(set(paper.heights), set(web))
                    if len(paper.row) <= 6:
                        short += 1
                        self.assertEqual((paper.number, paper.row), (number, row))
                    self.assertGreaterEqual(paper.number, number)
                    for knot in heights:
                        self.assertGreaterEqual(paper.heights[knot], heights[knot])
                    self.assertEqual(max(paper.heights.values()), paper.number)
                else:
                    rings += 1
                    self.assertIs(type(paper), CartRing)
                    self.assertIs(plain_ring_paper(plan, bays, gate_adds(plan, gate), paper.row, paper.ring), True)
        self.assertGreater(rings, 5)
        self.assertGreater(short, 50)

    def test_heights_are_the_least(self):
        for plan, bays, _ in plans_and_bays(43, 60):
            web = PlaceWeb(plan, bays)
            for gate in plan.gates if web else ():
                paper, adds = need_of(plan, bays, gate), gate_adds(plan, gate)
                if paper:
                    # All that must be so, and no height without a step that wants it.
                    wants = {knot: [0] if knot == BEGIN else [] for knot in web}
                    for knot in web:
                        for kind, name, site, behind in web.steps(knot):
                            wants[behind].append(paper.heights[knot] + adds(kind, name, site))
                    self.assertEqual({knot: max(told) for knot, told in wants.items()}, paper.heights)

    def test_need_is_what_the_gate_needs(self):
        # With so many carts no let row of six events is refused, with one less the told one is.
        for plan, bays, _ in plans_and_bays(44, 30):
            for gate in plan.gates if PlaceWeb(plan, bays) else ():
                paper = need_of(plan, bays, gate)
                if paper and paper.number > 0:
                    adds = gate_adds(plan, gate)
                    self.assertEqual(adds(*last_step(plan, bays, paper.row)), 1)

    def test_no_need(self):
        paper = need_of(PLAN, BAYS, "back")
        self.assertEqual((paper.number, paper.row), (0, ()))
        self.assertEqual(paper.heights[BEGIN], 0)
        none = Plan([Wish("a", [("s", 0)])], [Site("s", "h", "g")], Promise(Limit(1, a=1)))
        self.assertEqual(need_of(none, {"s": 1}, "g"), CartNeed(0, {BEGIN: 0, ((("a", "s", 1),), ()): 0}, ()))
        nobody = Plan([Wish("a", [("s", 0)], cart=True)], [Site("s", "h", "g")], Promise(Limit(0, a=1)))
        self.assertEqual(need_of(nobody, {}, "g"), CartNeed(0, {BEGIN: 0}, ()))

    def test_below_zero(self):
        # More and more carts come to the gate "away", so its heights become less.
        plan = lone("away", Limit(1, a=1), YearLimit(2, a=1))
        here, one, two = (("a", "s", 1),), (("a", 1),), (("a", 2),)
        heights = {BEGIN: 0, (here, one): 0, ((), one): -1, (here, two): -1, ((), two): -2}
        self.assertEqual(need_of(plan, {"s": 1}, "away"), CartNeed(0, heights, ()))
        heights = {BEGIN: 0, (here, one): 1, ((), one): 1, (here, two): 2, ((), two): 2}
        self.assertEqual(need_of(plan, {"s": 1}, "g"), CartNeed(2, heights, ("a", 0, "a")))

    def test_who_brings_carts_without_end(self):
        # b and c bring a cart each time, as often as they like: the heights tell what the others then need at most.
        sites = [Site("near", "h", "front"), Site("far", "h", "front")]
        wishes = [Wish("a", [("near", 0), ("far", 0)], cart=True), Wish("b", [("near", 0)], cart=True, back="away"),
                  Wish("c", [("far", 0)], cart=True, back="away")]
        plan = Plan(wishes, sites, Promise(Limit(1, a=1), Limit(1, b=1), Limit(1, c=1), Limit(2, a=1, b=1, c=1)))
        for bays in ({"near": 2, "far": 2}, {"near": 2, "far": 1}):
            self.assertTrue(PlaceWeb(plan, bays))
            paper = need_of(plan, bays, "away")
            self.assertEqual((paper.number, paper.row, paper.heights), plain_need(plan, bays, gate_adds(plan, "away"), 6))

    def test_detours_that_bring_carts(self):
        # Only behind b, who is gone again, a has the far bay: then a cart came. With b there anew no second one has.
        sites = [Site("near", "h", "front"), Site("far", "h", "front")]
        wishes = [Wish("a", [("near", 0), ("far", 0)]), Wish("b", [("near", 0), ("far", 0)], cart=True, back="away")]
        plan = Plan(wishes, sites, Promise(Limit(1, a=1), Limit(1, b=1)))
        bays = {"near": 1, "far": 1}
        self.assertTrue(PlaceWeb(plan, bays))
        paper = need_of(plan, bays, "away")
        self.assertEqual((paper.number, paper.row, paper.heights), plain_need(plan, bays, gate_adds(plan, "away"), 7))
        far = ((("a", "far", 1),), ())
        both = ((("a", "far", 1), ("b", "near", 1)), ())
        self.assertEqual((paper.heights[far], paper.heights[both]), (-1, 0))

    def test_ring(self):
        paper = need_of(lone("away", Limit(1, a=1)), {"s": 1}, "g")
        here = ((("a", "s", 1),), ())
        self.assertEqual(paper, CartRing((), (("come", "a", "s", here), ("go", "a", "s", BEGIN))))
        self.assertIs(bool(paper), False)
        self.assertEqual(need_of(lone("away", Limit(1, a=1)), {"s": 1}, "away").number, 0)

    def test_long_years(self):
        plan = lone("away", Limit(1, a=1), YearLimit(9999, a=1))
        paper = need_of(plan, {"s": 1}, "g")
        self.assertEqual((paper.number, len(paper.row)), (9999, 19997))
        self.assertIs(shows_need(plan, {"s": 1}, "g", paper), True)
        self.assertIs(shows_need(plan, {"s": 1}, "g", CartNeed(9999, paper.heights, paper.row + paper.row)), False)

    def test_by_name(self):
        paper = need_of(plan=PLAN, bays=BAYS, gate="front")
        self.assertEqual(paper.number, 5)
        self.assertIs(shows_need(plan=PLAN, bays=BAYS, gate="front", value=paper), True)
        self.assertEqual((own_need(plan=PLAN, gate="front"), most_out(plan=PLAN)), (5, 2))


def last_step(plan, bays, row):
    """The last step of a row."""
    web, knot = PlaceWeb(plan, bays), BEGIN
    guests = []
    for event in row:
        kind, name = ("come", event) if isinstance(event, str) else ("go", guests[event][0])
        step = [step for step in web.steps(knot) if step[:2] == (kind, name) and (kind == "come" or step[2] == guests[event][1])][0]
        knot = step[3]
        if kind == "come":
            guests.append((name, step[2]))
    return step[:3]


def plain_own_need(plan, gate, most):
    """The greatest need over all rows of at most so many events and all choices of sites."""
    best = 0
    adds = gate_adds(plan, gate)
    for row in let_rows(plan, most):
        came = [event for event in row if isinstance(event, str)]
        for sites in product(*[[site for site, _ in plan[name].picks] for name in came]):
            need, number = 0, 0
            for event in row:
                if isinstance(event, str):
                    need += adds("come", event, sites[number])
                    number += 1
                else:
                    need += adds("go", came[event], sites[event])
            best = max(best, need)
    return best


class OwnNeedTest(StayTest):
    def test_against_plain_trying(self):
        rng = random.Random(45)
        ends = 0
        for _ in range(60):
            plan = some_plan(rng)
            for gate in plan.gates:
                told, less, more = own_need(plan, gate), plain_own_need(plan, gate, 3), plain_own_need(plan, gate, 5)
                if told is None:
                    self.assertTrue(more > 0)
                else:
                    self.assertGreaterEqual(told, more)
                    if told <= 2:
                        ends += 1
                        self.assertEqual(told, more)
                self.assertGreaterEqual(more, less)
        self.assertGreater(ends, 20)

    def test_is_never_less_than_the_need(self):
        for plan, bays, _ in plans_and_bays(46, 80):
            for gate in plan.gates if PlaceWeb(plan, bays) else ():
                own, paper = own_need(plan, gate), need_of(plan, bays, gate)
                if own is not None:
                    self.assertIs(bool(paper), True)
                    self.assertGreaterEqual(own, paper.number)

    def test_both_kinds_of_guests(self):
        # a leaves his cart elsewhere, b keeps it here; together at most four of both in a year, two of them at once.
        wishes = [Wish("a", [("s", 0)], cart=True, back="t"), Wish("b", [("s", 0), ("u", 0)], cart=True)]
        sites = [Site("s", "h", "g"), Site("u", "h", "t")]
        plan = Plan(wishes, sites, Promise(Limit(2, a=1, b=1), YearLimit(4, a=1, b=1)))
        self.assertEqual([own_need(plan, gate) for gate in plan.gates], [4, 2])
        plan = Plan(wishes, sites, Promise(Limit(2, a=1, b=1), YearLimit(4, a=1)))
        self.assertEqual([own_need(plan, gate) for gate in plan.gates], [6, 2])
        plan = Plan(wishes, sites, Promise(Limit(2, a=1, b=1), YearLimit(4, b=1)))
        self.assertEqual([own_need(plan, gate) for gate in plan.gates], [None, 2])
        plan = Plan(wishes, sites, Promise(Limit(2, a=1, b=1), YearLimit(5, a=2, b=1)))
        self.assertEqual([own_need(plan, gate) for gate in plan.gates], [3, 2])

    def test_who_cannot_come(self):
        wishes = [Wish("a", [("s", 0)], cart=True, back="t"), Wish("b", [("s", 0)], cart=True)]
        plan = Plan(wishes, [Site("s", "h", "g")], Promise(Limit(1, a=2, b=1)))
        self.assertEqual((own_need(plan, "g"), own_need(plan, "t")), (1, 0))
        plan = Plan(wishes, [Site("s", "h", "g")], Promise(Limit(1, a=1, b=1), YearLimit(0, b=1)))
        self.assertEqual((own_need(plan, "g"), own_need(plan, "t")), (None, 0))

    def test_too_many(self):
        self.assertEqual(own_need(lone(None, Limit(4999, a=1)), "g"), 4999)
        self.raises(TooMany("standings", 5000), own_need, lone(None, Limit(5000, a=1)), "g")
        self.assertEqual(own_need(lone("t", Limit(1, a=1), YearLimit(4999, a=1)), "g"), 4999)
        self.raises(TooMany("years", 5000), own_need, lone("t", Limit(1, a=1), YearLimit(5000, a=1)), "g")
        self.raises(TooMany("standings", 5000), own_need, lone("t", Limit(5000, a=1), YearLimit(5000, a=1)), "g")
        # There is no end to it: so nothing is too many.
        self.assertIs(own_need(lone("t", Limit(GREATEST, a=1)), "g"), None)
        self.raises(TooMany("standings", 5000), own_need, lone("t", Limit(GREATEST, a=1)), "t")

    def test_most_out(self):
        plan = Plan([Wish("a", [("s", 0)], cart=True), Wish("b", [("s", 0)]), Wish("c", [("s", 0)], cart=True)], [Site("s", "h", "g")],
                    Promise(Limit(5, a=2, b=1, c=1), Limit(3, c=2)))
        self.assertEqual(most_out(plan), 3)
        self.assertEqual(most_out(Plan([Wish("b", [("s", 0)])], [Site("s", "h", "g")], Promise(Limit(5, b=1)))), 0)
        self.assertEqual(most_out(lone(None, Limit(4999, a=1))), 4999)
        self.raises(TooMany("standings", 5000), most_out, lone(None, Limit(5000, a=1)))
        for plan, bays, _ in plans_and_bays(47, 60):
            if PlaceWeb(plan, bays):
                papers = [need_of(plan, bays, gate) for gate in plan.gates]
                if all(papers):
                    self.assertGreaterEqual(sum(paper.number for paper in papers), most_out(plan))
            wanting = [name for name in plan.names if plan[name].cart]
            best = max(sum(numbers[name] for name in wanting) for numbers in standings(plan))
            self.assertEqual(most_out(plan), best)


def standings(plan):
    """All standings that come about, as dicts."""
    for numbers in product(range(4), repeat=len(plan.names)):
        told = dict(zip(plan.names, numbers))
        if keeps(plan.promise, told, told):
            yield told


class LookCartsTest(StayTest):
    def test_other_values(self):
        paper = need_of(PLAN, BAYS, "front")
        for value in ANY + [CartNeed, CartRing]:
            self.assertIs(shows_need(PLAN, BAYS, "front", value), False)
            self.assertIs(shows_need(PLAN, BAYS, "front", CartNeed(value, paper.heights, paper.row)), value == 5)
            self.assertIs(shows_need(PLAN, BAYS, "front", CartNeed(5, value, paper.row)), False)
            self.assertIs(shows_need(PLAN, BAYS, "front", CartNeed(5, paper.heights, value)), False)
            self.assertIs(shows_need(PLAN, BAYS, "front", CartNeed(value, value, value)), False)
            self.assertIs(shows_need(PLAN, BAYS, "front", CartRing(value, value)), False)

    def test_changed(self):
        rng = random.Random(48)
        right = wrong = 0
        for plan, bays, _ in plans_and_bays(49, 60):
            for gate in plan.gates if PlaceWeb(plan, bays) else ():
                paper, adds = need_of(plan, bays, gate), gate_adds(plan, gate)
                kept = paper.kept()
                if len(PlaceWeb(plan, bays)) > 40:
                    continue
                for _ in range(20):
                    changed = list(kept)
                    at = rng.randrange(len(kept))
                    changed[at] = changed_once(rng, kept[at])
                    told = type(paper)(*changed)
                    expected = (plain_need_paper if paper else plain_ring_paper)(plan, bays, adds, *changed)
                    self.assertIs(shows_need(plan, bays, gate, told), expected, changed)
                    right += expected
                    wrong += not expected
                for other in plan.gates:
                    look = plain_need_paper if paper else plain_ring_paper
                    self.assertIs(shows_need(plan, bays, other, paper), look(plan, bays, gate_adds(plan, other), *kept))
        self.assertGreater(right, 50)
        self.assertGreater(wrong, 300)

    def test_greater_heights_and_numbers(self):
        paper = need_of(PLAN, BAYS, "front")
        more = {knot: height + 1 for knot, height in paper.heights.items()}
        self.assertIs(shows_need(PLAN, BAYS, "front", CartNeed(5, more, paper.row)), False)
        self.assertIs(shows_need(PLAN, BAYS, "front", CartNeed(6, more, paper.row)), False)
        self.assertIs(shows_need(PLAN, BAYS, "front", CartNeed(4, paper.heights, paper.row[:-1])), False)
        for knot in paper.heights:
            less = dict(paper.heights)
            less[knot] -= 1
            self.assertIs(shows_need(PLAN, BAYS, "front", CartNeed(5, less, paper.row)), False)
            del less[knot]
            self.assertIs(shows_need(PLAN, BAYS, "front", CartNeed(5, less, paper.row)), False)
            for value in (None, True, "5", (5,), 5.0):
                self.assertIs(shows_need(PLAN, BAYS, "front", CartNeed(5, {**paper.heights, knot: value}, paper.row)), False)
        level = {knot: 5 for knot in paper.heights}
        self.assertIs(shows_need(PLAN, BAYS, "front", CartNeed(5, level, paper.row)), False)
        self.assertIs(shows_need(PLAN, BAYS, "back", CartNeed(0, {knot: 0 for knot in level}, ())), True)
        # The heights of the gate back can lie below 0, too.
        self.assertIs(shows_need(PLAN, BAYS, "back", CartNeed(0, {knot: 0 if knot == BEGIN else -1 for knot in level}, ())), False)

    def test_other_keys_play_no_part(self):
        paper = need_of(PLAN, BAYS, "front")
        for key in (None, "a", 5, ((), (("guide", 9),)), ((("rider", "far", 1),), ()), (), (((),),)):
            for value in (None, 99, "x"):
                if key not in paper.heights:
                    self.assertIs(shows_need(PLAN, BAYS, "front", CartNeed(5, {**paper.heights, key: value}, paper.row)), True)

    def test_another_row(self):
        paper = need_of(PLAN, BAYS, "front")
        late = ("guide", 0, "guide", 1, "guide", 2, "rider", "rider")
        self.assertIs(shows_need(PLAN, BAYS, "front", CartNeed(5, paper.heights, late)), True)
        self.assertIs(shows_need(PLAN, BAYS, "front", CartNeed(5, paper.heights, list(late))), False)
        self.assertIs(shows_need(PLAN, BAYS, "front", CartNeed(5, paper.heights, late[:-1])), False)
        self.assertIs(shows_need(PLAN, BAYS, "front", CartNeed(5, paper.heights, late + ("rider",))), False)

    def test_keys_as_python_compares(self):
        plan = lone("away", Limit(1, a=1), YearLimit(1, a=1))
        paper = need_of(plan, {"s": 1}, "g")
        strange = {(tuple((w, s, True) for w, s, n in held), tuple((w, True) for w, n in year)): height
                   for (held, year), height in paper.heights.items()}
        self.assertIs(shows_need(plan, {"s": 1}, "g", CartNeed(1, strange, paper.row)), True)
        self.assertIs(shows_need(plan, {"s": 1}, "g", CartNeed(True, strange, paper.row)), False)

    def test_places_refuse(self):
        # A CartNeed wants all comings taken, a CartRing only its own ones.
        plan = lone("away", Limit(2, a=1))
        here = ((("a", "s", 1),), ())
        ring = CartRing((), (("come", "a", "s", here), ("go", "a", "s", BEGIN)))
        self.raises(NoBay("a"), need_of, plan, {"s": 1}, "g")
        self.assertIs(shows_need(plan, {"s": 1}, "g", ring), True)
        yearly = lone("away", Limit(2, a=1), YearLimit(2, a=1))
        one, two = (("a", 1),), (("a", 2),)
        told = (("a", "s", 1),)
        heights = {BEGIN: 0, (told, one): 1, ((), one): 1, (told, two): 2, ((), two): 2}
        self.assertIs(shows_need(yearly, {"s": 1}, "g", CartNeed(2, heights, ("a", 0, "a"))), False)
        alone = lone("away", Limit(1, a=1), YearLimit(2, a=1))
        self.assertIs(shows_need(alone, {"s": 1}, "g", CartNeed(2, heights, ("a", 0, "a"))), True)

    def test_rows_in_which_places_refuse(self):
        for value in (CartNeed(0, {BEGIN: 0}, ("a", "a")), CartNeed(1, {BEGIN: 0}, ("a", "a")), CartRing(("a", "a"), ()), CartRing(("a", "a", 1), ())):
            self.assertIs(shows_need(lone("away", Limit(2, a=1)), {"s": 1}, "g", value), False)
            self.assertIs(shows_need(lone("away", Limit(2, a=1)), {}, "g", value), False)

    def test_rings(self):
        plan = lone("away", Limit(2, a=1))
        here, two = ((("a", "s", 1),), ()), ((("a", "s", 2),), ())
        come, go, more, less = ("come", "a", "s", here), ("go", "a", "s", BEGIN), ("come", "a", "s", two), ("go", "a", "s", here)
        cases = [((), (come, go), True), ((), (come, more, less, go), True), ((), (come, go, come, go), True), (("a",), (more, less), True),
                 (("a",), (go, come), True), ((), (), False), ((), (come,), False), (("a",), (come, go), False), (("a", 0), (come, go), True),
                 ((), (go, come), False), ((), [come, go], False), ([], (come, go), False), (("b",), (more, less), False),
                 (("a", "a", "a"), (less, more), False), (("a", "a"), (less, more), True), ((), (come, more, go, less), False),
                 ((), (list(come), go), False), ((), (come[:3], go), False), ((), (come, go + (1,)), False), ((), (come, None), False),
                 ((), (("come", "a", "t", here), go), False), ((), (("come", "b", "s", here), go), False), ((), (("come", "a", "s", two), go), False),
                 ((), (("comes", "a", "s", here), go), False), ((), (("come", "a", "s", ((("a", "s", True),), ())), go), True)]
        for row, ring, expected in cases:
            self.assertIs(shows_need(plan, {"s": 2}, "g", CartRing(row, ring)), expected, (row, ring))
            self.assertIs(shows_need(plan, {"s": 2}, "away", CartRing(row, ring)), False)
            self.assertIs(plain_ring_paper(plan, {"s": 2}, gate_adds(plan, "g"), row, ring), expected)
        same = lone(None, Limit(2, a=1))
        self.assertIs(shows_need(same, {"s": 2}, "g", CartRing((), (come, go))), False)

    def test_more_bays(self):
        rng = random.Random(50)
        for plan, bays, _ in plans_and_bays(51, 40):
            if PlaceWeb(plan, bays):
                paper = need_of(plan, bays, plan.gates[0])
                other = {site: bays.get(site, 0) + rng.randint(0, 1) for site in plan_sites(plan)}
                look = plain_need_paper if paper else plain_ring_paper
                expected = look(plan, other, gate_adds(plan, plan.gates[0]), *paper.kept())
                self.assertIs(shows_need(plan, other, plan.gates[0], paper), expected)


if __name__ == "__main__":
    unittest.main()
