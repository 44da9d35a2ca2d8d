"""Needs of intervals of lines, least sums, and papers of them that are looked at."""

import random
import unittest

from helpers import ANY, GREATEST, StayTest
from plain import is_refused, let_rows, line_adds, plain_need, play_places, plans_and_bays, purse_wants, some_plan, some_row
from plain_looks import changed_once, plain_need_paper, plain_ring_paper
from test_places import no_bays

from stayhouse.counts import Counts
from stayhouse.errors import BadHouse, BadNumber, BadRow, BadStock, NoBay, TooMany, Unbounded
from stayhouse.limits import Limit, YearLimit
from stayhouse.line_needs import LineNeed, LineRing, least_sums, line_needs, need_of_lines, own_spent, spent_in
from stayhouse.lines import Lines
from stayhouse.look_purse import shows_need_of_lines
from stayhouse.places import PlaceWeb
from stayhouse.plans import Plan
from stayhouse.promises import Promise
from stayhouse.sites import Site
from stayhouse.wishes import Wish

SITES = [Site("near", "east", "front", 1), Site("far", "east", "back", 2)]
WISHES = [Wish("rider", [("near", 0), ("far", 0)], price=5), Wish("walker", [("far", 0)], price=2)]
PLAN = Plan(WISHES, SITES, Promise(Limit(2, rider=1, walker=1), YearLimit(3, rider=1), YearLimit(4, walker=1)))
BAYS = {"near": 1, "far": 2}
LONE = Plan([Wish("a", [("s", 0)], price=3)], [Site("s", "h", "g", 2)], Promise(Limit(2, a=1), YearLimit(2, a=1)), None, 3)
BEGIN = ((), ())


def pairs_of(plan):
    """All intervals of lines."""
    return [(i, j) for i in range(1, plan.lines + 1) for j in range(i, plan.lines + 1)]


class ErrorsTest(StayTest):
    def test_order(self):
        calls = [(need_of_lines, (5, 5)), (shows_need_of_lines, (5, 5, 5)), (line_needs, ()), (least_sums, (5,)), (spent_in, (5,))]
        for value in ANY:
            for function, more in calls:
                self.raises(BadHouse("plan"), function, value, 5, *more)
            self.raises(BadHouse("plan"), own_spent, value, 5, 5)
        for value in no_bays(LONE):
            for function, more in calls:
                self.raises(BadStock("bays"), function, LONE, value, *more)

    def test_lines(self):
        for function, end in ((need_of_lines, ()), (shows_need_of_lines, (5,))):
            for value in ANY + [2, 3, 4]:
                if not (type(value) is int and 1 <= value <= 3):
                    self.raises(BadNumber(value), function, LONE, {"s": 2}, value, 5, *end)
                    self.raises(BadNumber(value), function, LONE, {"s": 2}, 1, value, *end)
            self.raises(BadNumber(1), function, LONE, {"s": 2}, 2, 1, *end)
            self.raises(BadNumber(9), function, LONE, {"s": 2}, 9, 9, *end)
        for value in ANY + [4]:
            if not (type(value) is int and 1 <= value <= 3):
                self.raises(BadNumber(value), own_spent, LONE, value, 5)
                self.raises(BadNumber(value), own_spent, LONE, 1, value)
        self.raises(BadNumber(2), own_spent, LONE, 3, 2)

    def test_knots_and_bays(self):
        great = LONE.with_promise(Promise(Limit(20000, a=1)))
        for function, more in ((need_of_lines, (1, 1)), (line_needs, ()), (least_sums, (None,))):
            self.raises(TooMany("knots", 20000), function, great, {"s": 20000}, *more)
            self.raises(NoBay("a"), function, great, {"s": 1}, *more)
            self.raises(NoBay("a"), function, LONE, {}, *more)
        wishes = [Wish("c", [("s", 0)]), Wish("b", [("s", 0)])]
        plan = Plan(wishes, [Site("s", "h", "g")], Promise(Limit(2, b=1, c=1)))
        self.raises(NoBay("c"), line_needs, plan, {"s": 1})

    def test_by_name(self):
        told = {"plan": PLAN, "bays": BAYS}
        paper = need_of_lines(i=1, j=2, **told)
        self.assertEqual((paper.number, line_needs(**told)[(1, 2)], least_sums(caps=(4,), **told)), (23, 23, (15, 14)))
        self.assertIs(shows_need_of_lines(i=1, j=2, value=paper, **told), True)
        self.assertEqual((own_spent(plan=PLAN, i=2, j=2), spent_in(row=("rider",), **told)), (23, (5, 0)))


class SpentTest(StayTest):
    def test_against_plain_trying(self):
        rng = random.Random(71)
        refused = 0
        for plan, bays, _ in plans_and_bays(72, 120):
            row = some_row(rng, plan, 10, rng.random() < 0.3)
            told = play_places(plan, bays, row)
            spent = [0] * plan.lines
            for kind, name, site, _ in told:
                if kind == "come" and site is not None:
                    spent[plan.site_of(site).line - 1] += plan[name].price
            refused += is_refused(told)
            self.same(spent_in(plan, bays, row), tuple(spent))
            self.assertEqual(spent_in(plan, Counts.of(bays), list(row)), tuple(spent))
        self.assertGreater(refused, 20)

    def test_who_is_refused_pays_nothing_and_can_go(self):
        self.assertEqual(spent_in(LONE, {"s": 1}, ("a", "a", 1, 0, "a")), (0, 6, 0))
        self.assertEqual(spent_in(LONE, {}, ("a", 0)), (0, 0, 0))
        self.assertEqual(spent_in(LONE, {}, ()), (0, 0, 0))
        # Not let: more than two at once, and in a year.
        self.assertEqual(spent_in(LONE, {"s": 9}, ("a",) * 5), (0, 15, 0))

    def test_wrong_rows(self):
        for value in ANY:
            if not isinstance(value, (list, tuple)):
                self.raises(BadRow("row"), spent_in, LONE, {"s": 1}, value)
        cases = [(("a", "b"), 1), (("a", 1), 1), (("a", 0, 0), 2), ((0,), 0), (("a", True), 1), (("a", -1), 1), (["a", None], 1), ((("a",),), 0),
                 (("a", "a", 2, "b"), 2), (("b", 0), 0), (("b", 5), 0), (("a", "s"), 1), (("a", []), 1), (["self"], 0), (("a", 0, "a", "0"), 3),
                 (("a", "aa"), 1), (("a", ""), 1), (("A",), 0), (("a", 10 ** 39), 1)]
        for row, at in cases:
            self.raises(BadRow(at), spent_in, LONE, {"s": 1}, row)

    def test_long_rows(self):
        row = ["a"] + [event for number in range(10000) for event in (number, "a")]
        self.assertEqual(spent_in(LONE, {"s": 1}, row[:20000]), (0, 30000, 0))
        self.assertEqual(spent_in(LONE, {"s": 1}, row), (0, 30003, 0))


class NeedTest(StayTest):
    def test_against_plain_trying(self):
        rings = short = 0
        for plan, bays, _ in plans_and_bays(73, 100):
            if not PlaceWeb(plan, bays):
                continue
            told = line_needs(plan, bays)
            self.assertEqual(sorted(told), pairs_of(plan))
            for i, j in pairs_of(plan):
                paper = need_of_lines(plan, bays, i, j)
                number, row, heights = plain_need(plan, bays, line_adds(plan, i, j), 6)
                self.assertIs(shows_need_of_lines(plan, bays, i, j, paper), True)
                self.assertEqual(told[(i, j)], paper.number if paper else None)
                if paper:
                    self.assertIs(type(paper), LineNeed)
                    if len(paper.row) <= 6:
                        short += 1
                        self.assertEqual((paper.number, paper.row), (number, row))
                    self.assertGreaterEqual(paper.number, number)
                    self.assertEqual(set(paper.heights), set(PlaceWeb(plan, bays)))
                    for knot in heights:
                        self.assertGreaterEqual(paper.heights[knot], heights[knot])
                else:
                    rings += 1
                    self.assertIs(type(paper), LineRing)
                    self.assertIs(plain_ring_paper(plan, bays, line_adds(plan, i, j), paper.row, paper.ring), True)
        self.assertGreater(rings, 20)
        self.assertGreater(short, 20)

    def test_heights_are_the_least(self):
        for plan, bays, _ in plans_and_bays(74, 60):
            web = PlaceWeb(plan, bays)
            for i, j in pairs_of(plan) if web else ():
                paper, adds = need_of_lines(plan, bays, i, j), line_adds(plan, i, j)
                if paper:
                    wants = {knot: [0] if knot == BEGIN else [] for knot in web}
                    for knot in web:
                        for kind, name, site, behind in web.steps(knot):
                            wants[behind].append(paper.heights[knot] + adds(kind, name, site))
                    self.assertEqual({knot: max(told) for knot, told in wants.items()}, paper.heights)

    def test_ring(self):
        plan = LONE.with_promise(Promise(Limit(1, a=1)))
        here = ((("a", "s", 1),), ())
        paper = need_of_lines(plan, {"s": 1}, 2, 2)
        self.assertEqual(paper, LineRing((), (("come", "a", "s", here), ("go", "a", "s", BEGIN))))
        self.assertIs(bool(paper), False)
        self.assertEqual(need_of_lines(plan, {"s": 1}, 1, 1), LineNeed(0, {BEGIN: 0, here: 0}, ()))
        told = {(1, 1): 0, (1, 2): None, (1, 3): None, (2, 2): None, (2, 3): None, (3, 3): 0}
        self.assertEqual(line_needs(plan, {"s": 1}), told)
        free = plan.with_wish(Wish("a", [("s", 0)]))
        self.assertEqual(set(line_needs(free, {"s": 1}).values()), {0})

    def test_great_prices(self):
        plan = LONE.with_wish(Wish("a", [("s", 0)], price=GREATEST))
        self.assertEqual(need_of_lines(plan, {"s": 2}, 1, 3).number, 2 * GREATEST)
        self.assertEqual(least_sums(plan, {"s": 2}, [GREATEST // 2, 0]), (GREATEST // 2, GREATEST // 2 * 3, 0))

    def test_six_lines(self):
        sites = [Site(name, "h", "g", line + 1) for line, name in enumerate("stuvwx")]
        plan = Plan([Wish("a", [(name, 0) for name in "stuvwx"], price=1)], sites, Promise(Limit(6, a=1), YearLimit(6, a=1)))
        bays = {name: 1 for name in "stuvwx"}
        told = line_needs(plan, bays)
        self.assertEqual(len(told), 21)
        self.assertEqual((told[(1, 6)], told[(1, 1)], told[(6, 6)]), (6, 6, 1))
        for pair in told:
            self.assertEqual(told[pair], need_of_lines(plan, bays, *pair).number)


class LeastSumsTest(StayTest):
    def test_wrong_caps(self):
        for value in ANY + [(1,), [1, 2, 3], (1, True), (1, -1), "12", {1: 1, 2: 2}]:
            if value is not None and value != (1, 2):
                self.raises(BadStock("caps"), least_sums, LONE, {"s": 2}, value)
                # Ahead of what is refused, too.
                self.raises(BadStock("caps"), least_sums, LONE, {}, value)
        self.assertEqual(least_sums(LONE, {"s": 2}, None), (0, 6, 0))
        self.assertEqual(least_sums(LONE, {"s": 2}, [1, 2]), (1, 5, 0))
        self.assertEqual(least_sums(LONE, {"s": 2}, (9, 2)), (6, 0, 0))

    def test_unbounded(self):
        plan = LONE.with_promise(Promise(Limit(1, a=1)))
        self.raises(Unbounded("sums"), least_sums, plan, {"s": 1}, None)
        self.raises(NoBay("a"), least_sums, plan, {}, None)
        self.raises(TooMany("knots", 20000), least_sums, plan.with_promise(Promise(Limit(GREATEST, a=1))), {"s": GREATEST}, None)

    def test_one_line(self):
        plan = Plan([Wish("a", [("s", 0)], price=3)], [Site("s", "h", "g")], Promise(Limit(2, a=1), YearLimit(4, a=1)))
        for caps in ((), [], None):
            self.assertEqual(least_sums(plan, {"s": 2}, caps), (12,))
        self.raises(BadStock("caps"), least_sums, plan, {"s": 2}, (0,))

    def test_against_plain_trying(self):
        rng = random.Random(75)
        compared = 0
        for plan, bays, _ in plans_and_bays(76, 150):
            if not PlaceWeb(plan, bays) or None in line_needs(plan, bays).values():
                continue
            if max(len(need_of_lines(plan, bays, i, j).row) for i, j in pairs_of(plan)) > 6:
                continue
            compared += 1
            caps = tuple(rng.randint(0, 6) for _ in range(plan.lines - 1))
            sums = least_sums(plan, bays, caps)
            paid, taken = set(), {()}
            for row in let_rows(plan, 6, lambda row: row in taken):
                if not is_refused(play_places(plan, bays, row)):
                    taken.add(row)
                    paid.add(spent_in(plan, bays, row))
            self.assertTrue(never_refuses(sums, caps, paid))
            for at in range(len(sums)):
                # Neither does it do with less, nor could one of the last ones be less, whatever the first ones are.
                if sums[at] > 0:
                    self.assertFalse(never_refuses(sums[:at] + (sums[at] - 1,) + sums[at + 1:], caps, paid))
                    self.assertFalse(never_refuses((10 ** 6,) * at + (sums[at] - 1,) + sums[at + 1:], caps, paid))
        self.assertGreater(compared, 20)


def never_refuses(sums, caps, paid):
    """Whether lines can have paid all of it."""
    for spent in paid:
        wants = purse_wants(sums, spent)
        if wants[0] > 0 or any(more > cap for more, cap in zip(wants[1:], caps)):
            return False
        assert Lines(sums, caps).can(spent)
    return True


class OwnSpentTest(StayTest):
    def test_against_plain_trying(self):
        rng = random.Random(77)
        ends = 0
        for _ in range(80):
            plan = some_plan(rng)
            for i, j in pairs_of(plan):
                prices = {name: max(line_adds(plan, i, j)("come", name, site) for site, _ in plan[name].picks) for name in plan.names}
                best = [max(sum(prices[event] for event in row if isinstance(event, str)) for row in let_rows(plan, most)) for most in (3, 6)]
                told = own_spent(plan, i, j)
                if told is None:
                    self.assertGreater(best[1], 0)
                else:
                    self.assertGreaterEqual(told, best[1])
                    if best[0] == best[1]:
                        ends += 1
                        self.assertEqual(told, best[1])
        self.assertGreater(ends, 20)

    def test_is_never_less_than_the_need(self):
        for plan, bays, _ in plans_and_bays(78, 80):
            for (i, j), need in line_needs(plan, bays).items() if PlaceWeb(plan, bays) else ():
                own = own_spent(plan, i, j)
                self.assertTrue(own is None or need is not None and own >= need)

    def test_who_cannot_come(self):
        wishes = [Wish("a", [("s", 0)], price=3), Wish("b", [("s", 0)], price=5)]
        sites = [Site("s", "h", "g")]
        self.assertEqual(own_spent(Plan(wishes, sites, Promise(Limit(1, a=1, b=2), YearLimit(2, a=1))), 1, 1), 6)
        self.assertEqual(own_spent(Plan(wishes, sites, Promise(Limit(1, a=1, b=1), YearLimit(2, a=1))), 1, 1), None)
        self.assertEqual(own_spent(Plan(wishes, sites, Promise(Limit(1, a=1, b=1), YearLimit(2, a=1), YearLimit(0, b=1))), 1, 1), 6)
        self.assertEqual(own_spent(Plan(wishes, sites, Promise(Limit(1, a=1, b=1), YearLimit(2, a=1, b=1))), 1, 1), 10)

    def test_too_many(self):
        self.assertEqual(own_spent(LONE.with_promise(Promise(Limit(1, a=1), YearLimit(4999, a=1))), 1, 2), 14997)
        many = LONE.with_promise(Promise(Limit(1, a=1), YearLimit(5000, a=1)))
        for i, j in ((2, 2), (1, 1)):
            self.raises(TooMany("years", 5000), own_spent, many, i, j)
        free = LONE.with_promise(Promise(Limit(GREATEST, a=1)))
        self.assertEqual([own_spent(free, *pair) for pair in ((2, 2), (1, 1))], [None, 0])


class LookTest(StayTest):
    def test_other_values(self):
        paper = need_of_lines(PLAN, BAYS, 2, 2)
        for value in ANY + [LineNeed, LineRing]:
            self.assertIs(shows_need_of_lines(PLAN, BAYS, 2, 2, value), False)
            for told in (LineNeed(value, paper.heights, paper.row), LineNeed(18, value, paper.row), LineNeed(18, paper.heights, value),
                         LineRing(value, value)):
                self.assertIs(shows_need_of_lines(PLAN, BAYS, 2, 2, told), False)

    def test_changed(self):
        rng = random.Random(79)
        right = wrong = 0
        for plan, bays, _ in plans_and_bays(80, 60):
            web = PlaceWeb(plan, bays)
            for i, j in pairs_of(plan) if web and len(web) <= 40 else ():
                paper, adds = need_of_lines(plan, bays, i, j), line_adds(plan, i, j)
                look = plain_need_paper if paper else plain_ring_paper
                kept = paper.kept()
                for _ in range(15):
                    changed = list(kept)
                    at = rng.randrange(len(kept))
                    changed[at] = changed_once(rng, kept[at])
                    expected = look(plan, bays, adds, *changed)
                    self.assertIs(shows_need_of_lines(plan, bays, i, j, type(paper)(*changed)), expected, changed)
                    right += expected
                    wrong += not expected
                for pair in pairs_of(plan):
                    self.assertIs(shows_need_of_lines(plan, bays, *pair, paper), look(plan, bays, line_adds(plan, *pair), *kept))
        self.assertGreater(right, 50)
        self.assertGreater(wrong, 300)

    def test_papers_of_gates_are_no_papers_of_lines(self):
        from stayhouse.cart_needs import CartNeed, CartRing
        from stayhouse.look_carts import shows_need
        paper = need_of_lines(PLAN, BAYS, 2, 2)
        self.assertIs(shows_need_of_lines(PLAN, BAYS, 2, 2, CartNeed(*paper.kept())), False)
        self.assertIs(shows_need(PLAN, BAYS, "back", LineNeed(0, {knot: 0 for knot in paper.heights}, ())), False)
        self.assertIs(shows_need(PLAN, BAYS, "back", CartNeed(0, {knot: 0 for knot in paper.heights}, ())), True)
        ring = need_of_lines(LONE.with_promise(Promise(Limit(1, a=1))), {"s": 1}, 2, 2)
        self.assertIs(shows_need_of_lines(LONE.with_promise(Promise(Limit(1, a=1))), {"s": 1}, 2, 2, CartRing(*ring.kept())), False)


if __name__ == "__main__":
    unittest.main()
