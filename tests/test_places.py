"""Places: bays, offers, webs of places, least bays."""

import random
import unittest

from helpers import ANY, GREATEST, StayTest
from plain import let_rows, plain_web, plan_sites, plans_and_bays, some_plan

from stayhouse.counts import Counts
from stayhouse.errors import BadHouse, BadStock, NoWish, TooMany
from stayhouse.limits import Limit, YearLimit
from stayhouse.places import Crowded, Housed, PlaceWeb, enough, judged_places, least_bays, offer, taken, there
from stayhouse.plans import Plan
from stayhouse.promises import Promise
from stayhouse.sites import Site
from stayhouse.wishes import Wish

SITES = [Site("near", "east", "front"), Site("far", "east", "back")]
WISHES = [Wish("rider", [("near", 0), ("far", 0)]), Wish("walker", [("far", 0)])]
PLAN = Plan(WISHES, SITES, Promise(Limit(2, rider=1, walker=1)))
BAYS = {"near": 1, "far": 2}
LONE = Plan([Wish("a", [("s", 0)])], [Site("s", "h", "g")], Promise(Limit(2, a=1)))
BEGIN = ((), ())

# What is no held, whatever the plan is.
NO_HELD = ANY[:] + [
    [], [("a", "s", 1)], (("a", "s"),), (("a", "s", 1, 1),), (["a", "s", 1],), (("a", "s", 0),), (("a", "s", -1),), (("a", "s", True),),
    (("a", "s", "1"),), (("A", "s", 1),), (("a", "S", 1),), (("self", "s", 1),), (("a", 1, 1),), ((1, "s", 1),), ("a", "s", 1),
    (("b", "s", 1), ("a", "s", 1)), (("a", "t", 1), ("a", "s", 1)), (("a", "s", 1), ("a", "s", 1)), (("a", "s", 1), ("a", "s", 2)),
    (("a", "s", 1), ()), (("a", "s", 1), None), (((), (), ()),),
]
NO_HELD = [value for value in NO_HELD if type(value) is not tuple or value]


def no_bays(plan):
    """Values that are no bays of a plan with a site s, but not t."""
    return [value for value in ANY if not isinstance(value, (dict, Counts))] + [
        {"t": 1}, {"t": 0}, {"s": -1}, {"s": True}, {"s": "1"}, {"s": None}, {"s": GREATEST + 1}, {"s": 1, "t": 1}, {1: 1}, {(): 1},
        {"s": (1,)}, {None: 1}, Counts(t=1), Counts(s=1, t=1), Counts(s=GREATEST + 1), {"self": 1}, [("s", 1)],
    ]


class BaysTest(StayTest):
    def calls(self, plan, bays):
        return [(PlaceWeb, (plan, bays)), (judged_places, (plan, bays)), (offer, (plan, bays, 5, 5))]

    def test_plan_is_told_first(self):
        for value in ANY:
            for function, arguments in self.calls(value, 5):
                self.raises(BadHouse("plan"), function, *arguments)
            self.raises(BadHouse("plan"), enough, value)
            self.raises(BadHouse("plan"), least_bays, value)

    def test_bays_are_told_next(self):
        for value in no_bays(LONE):
            for function, arguments in self.calls(LONE, value):
                with self.subTest(function=function.__name__, bays=value):
                    self.raises(BadStock("bays"), function, *arguments)

    def test_right_bays(self):
        few = Plan([Wish("a", [("s", 0)])], [Site("s", "h", "g"), Site("t", "h", "g")], Promise(Limit(2, a=1)))
        for bays in ({}, {"s": 0}, {"s": 1}, {"s": 2}, {"s": GREATEST}, {"s": 1, "t": 0}, {"t": GREATEST}, Counts(), Counts(s=1, t=2)):
            expected = min(bays["s"] if "s" in bays else 0, 2)
            self.assertEqual(len(PlaceWeb(few, bays)), expected + 1)
            self.assertIs(bool(PlaceWeb(few, bays)), expected == 2)
            self.assertEqual(offer(few, bays, (), "a"), "s" if expected else None)

    def test_bays_are_not_changed_and_not_kept(self):
        bays = {"near": 1, "far": 2}
        web = PlaceWeb(PLAN, bays)
        self.assertEqual(bays, {"near": 1, "far": 2})
        bays["far"] = 0
        self.assertEqual(len(web), 8)
        self.assertEqual(web.steps(BEGIN), PlaceWeb(PLAN, BAYS).steps(BEGIN))

    def test_by_name(self):
        self.assertEqual(offer(plan=PLAN, bays=BAYS, held=(), wish="rider"), "near")
        self.assertEqual(len(PlaceWeb(plan=PLAN, bays=BAYS)), 8)
        self.assertEqual(judged_places(plan=PLAN, bays=BAYS), judged_places(PLAN, BAYS))
        self.assertEqual((enough(plan=PLAN), taken(held=()), there(held=())), (Counts(near=2, far=2), Counts(), Counts()))
        self.assertEqual(least_bays(plan=PLAN), (Counts(far=2),))


class HeldTest(StayTest):
    def test_taken_and_there(self):
        held = (("a", "s", 2), ("a", "t", 10 ** 39), ("b", "s", 3))
        self.assertEqual(taken(held), Counts(s=5, t=10 ** 39))
        self.assertEqual(there(held), Counts(a=2 + 10 ** 39, b=3))
        self.assertEqual((taken(()), there(())), (Counts(), Counts()))

    def test_64_triples_and_65(self):
        names = [f"{one}{two}" for one in "abcdefghi" for two in "abcdefgh"]
        held = tuple((name, "s", 1) for name in names)
        self.assertEqual(taken(held[:64]), Counts(s=64))
        self.assertEqual(there(held[:64]).total, 64)
        for many in (65, 72):
            self.raises(BadHouse("held"), taken, held[:many])
            self.raises(BadHouse("held"), there, held[:many])

    def test_wrong(self):
        for value in NO_HELD:
            with self.subTest(held=value):
                self.raises(BadHouse("held"), taken, value)
                self.raises(BadHouse("held"), there, value)
                self.raises(BadHouse("held"), offer, LONE, {"s": 1}, value, 5)


class OfferTest(StayTest):
    def test_first_pick_of_which_more_than_keep_are_free(self):
        wish = Wish("a", [("s", 2), ("t", 0), ("u", 1)])
        plan = Plan([wish, Wish("b", [("s", 0)])], [Site(name, "h", "g") for name in "stu"], Promise(Limit(9, a=1, b=1)))
        cases = [
            ({}, (), None), ({"s": 3}, (), "s"), ({"s": 2}, (), None), ({"s": 2, "t": 1}, (), "t"), ({"t": 1, "u": 2}, (("a", "t", 1),), "u"),
            ({"u": 1}, (), None), ({"s": 4, "t": 1}, (("a", "s", 1),), "s"), ({"s": 4, "t": 1}, (("a", "s", 1), ("b", "s", 1)), "t"),
            ({"s": 4, "t": 1}, (("b", "s", 9),), "t"), ({"s": GREATEST}, (("b", "s", GREATEST - 3),), "s"),
            ({"s": GREATEST}, (("b", "s", GREATEST - 2),), None),
        ]
        for bays, held, expected in cases:
            self.assertEqual(offer(plan, bays, held, "a"), expected, (bays, held))

    def test_held_of_pairs_of_the_plan(self):
        for held in ((("rider", "mid", 1),), (("walker", "near", 1),), (("guide", "far", 1),), (("far", "rider", 1),)):
            self.raises(BadHouse("held"), offer, PLAN, BAYS, held, "rider")
            self.raises(BadHouse("held"), offer, PLAN, BAYS, held, "nobody")
        self.assertEqual(offer(PLAN, BAYS, (("rider", "near", 1), ("walker", "far", 2)), "walker"), None)

    def test_no_wish(self):
        for value in ANY:
            self.raises(NoWish(value), offer, PLAN, BAYS, (), value)
        for value in ("near", "riders", "ride"):
            self.raises(NoWish(value), offer, PLAN, BAYS, (), value)


class EnoughTest(StayTest):
    def test_enough(self):
        wishes = [Wish("a", [("s", 2), ("t", 0)]), Wish("b", [("t", 4)]), Wish("c", [("t", 1)])]
        sites = [Site(name, "h", "g") for name in "stuv"]
        promise = Promise(Limit(3, a=1, b=1), Limit(2, c=1), YearLimit(2, b=1, c=1))
        plan = Plan(wishes, sites, promise)
        # Three of a; of a, b and c three and two, but b and c at most two in a year.
        self.assertEqual(enough(plan), Counts(s=5, t=9))
        for plan in (plan, PLAN):
            most = enough(plan)
            more = PlaceWeb(plan, most + Counts.of({site: 3 for site in plan_sites(plan)}))
            self.assertEqual([web_steps(PlaceWeb(plan, most))], [web_steps(more)])

    def test_who_cannot_come(self):
        plan = Plan([Wish("a", [("s", 3)]), Wish("b", [("t", 0)])], [Site(name, "h", "g") for name in "stu"],
                    Promise(Limit(1, a=2, b=1)))
        self.assertEqual(enough(plan), Counts(s=3, t=1))
        self.assertEqual(least_bays(plan), (Counts(t=1),))

    def test_too_many(self):
        plan = LONE.with_promise(Promise(Limit(4999, a=1)))
        self.assertEqual(enough(plan), Counts(s=4999))
        for function in (enough, least_bays):
            self.raises(TooMany("standings", 5000), function, LONE.with_promise(Promise(Limit(5000, a=1))))
        self.raises(TooMany("standings", 5000), enough, LONE.with_promise(Promise(Limit(GREATEST, a=1))))

    def test_more_change_no_offer(self):
        rng = random.Random(5)
        for _ in range(30):
            plan = some_plan(rng)
            most = enough(plan)
            more = {site: most[site] + rng.randint(0, 3) for site in plan_sites(plan)}
            self.assertEqual(web_steps(PlaceWeb(plan, most)), web_steps(PlaceWeb(plan, more)))


def web_steps(web):
    """All that a web tells."""
    return [(knot, web.row_to(knot), web.steps(knot)) for knot in web], web.refused, web.refusal(), bool(web), len(web)


class WebTest(StayTest):
    def test_against_plain_trying(self):
        whole = 0
        for plan, bays, _ in plans_and_bays(1, 60):
            web = PlaceWeb(plan, bays)
            knots, refused = plain_web(plan, bays, 5)
            short = [knot for knot in web if len(web.row_to(knot)) <= 5]
            self.assertEqual(short, list(knots))
            self.assertEqual([web.row_to(knot) for knot in short], list(knots.values()))
            self.assertEqual([pair for pair in web.refused if len(web.row_to(pair[0])) < 5], list(refused))
            if refused:
                self.assertEqual(web.refusal(), list(refused.values())[0])
            whole += len(short) == len(web)
        self.assertGreater(whole, 30)

    def test_steps(self):
        for plan, bays, _ in plans_and_bays(2, 25):
            web = PlaceWeb(plan, bays)
            for knot in web:
                held, year = knot
                told = list(web.steps(knot))
                let = [row[0] for row in let_rows(plan, 1) if row] if knot == BEGIN else None
                comings = [step for step in told if step[0] == "come"]
                self.assertEqual(told[len(comings):], [step for step in told if step[0] == "go"])
                names = [name for name in plan.names if name in [step[1] for step in comings]]
                self.assertEqual([step[1] for step in comings], names)
                if let is not None:
                    refused = [name for known, name in web.refused if known == knot]
                    self.assertEqual(sorted(names + refused), sorted(let))
                for kind, name, site, behind in comings:
                    self.assertEqual(site, offer(plan, bays, held, name))
                    self.assertEqual(there(behind[0]), there(held) + Counts.of({name: 1}))
                    self.assertEqual(taken(behind[0]), taken(held) + Counts.of({site: 1}))
                    more = {name: 1} if name in plan.counted else {}
                    self.assertEqual(Counts.of(dict(behind[1])), Counts.of(dict(year)) + Counts.of(more))
                self.assertEqual([step[1:3] for step in told[len(comings):]], [entry[:2] for entry in held])
                for kind, name, site, behind in told[len(comings):]:
                    self.assertEqual(there(behind[0]), there(held) - Counts.of({name: 1}))
                    self.assertEqual(behind[1], year)
                self.assertTrue(all(step[3] in web for step in told))

    def test_order_of_rows(self):
        for plan, bays, _ in plans_and_bays(3, 25):
            web = PlaceWeb(plan, bays)
            rows = [web.row_to(knot) for knot in web]
            self.assertEqual(rows[0], ())
            self.assertEqual(list(web)[0], BEGIN)
            keys = [(len(row), [(isinstance(event, int), event) for event in row]) for row in rows]
            self.assertEqual(keys, sorted(keys))

    def test_wishes_in_the_order_of_the_plan_and_by_name(self):
        plan = Plan([Wish("b", [("s", 0)]), Wish("a", [("s", 0)])], [Site("s", "h", "g")], Promise(Limit(1, a=1, b=1)))
        web = PlaceWeb(plan, {"s": 1})
        self.assertEqual([step[1] for step in web.steps(BEGIN)], ["b", "a"])
        self.assertEqual(list(web), [BEGIN, ((("a", "s", 1),), ()), ((("b", "s", 1),), ())])
        self.assertEqual(PlaceWeb(plan, {}).refused, ((BEGIN, "a"), (BEGIN, "b")))
        self.assertEqual(PlaceWeb(plan, {}).refusal(), ("a",))

    def test_years(self):
        plan = LONE.with_promise(Promise(Limit(1, a=1), YearLimit(2, a=1)))
        one, two = (("a", 1),), (("a", 2),)
        here = (("a", "s", 1),)
        web = PlaceWeb(plan, {"s": 1})
        self.assertEqual(list(web), [BEGIN, (here, one), ((), one), (here, two), ((), two)])
        self.assertEqual([web.row_to(knot) for knot in web], [(), ("a",), ("a", 0), ("a", 0, "a"), ("a", 0, "a", 1)])
        self.assertEqual(web.steps(((), two)), ())
        self.assertEqual((web.refused, web.refusal(), bool(web)), ((), None, True))

    def test_refusals_end_rows(self):
        web = PlaceWeb(LONE, {"s": 1})
        here = (("a", "s", 1),)
        self.assertEqual(web.refused, (((here, ()), "a"),))
        self.assertEqual((web.refusal(), bool(web), len(web)), (("a", "a"), False, 2))
        self.assertEqual(web.steps((here, ())), (("go", "a", "s", BEGIN),))

    def test_first_of_alike_guests_goes(self):
        web = PlaceWeb(PLAN, BAYS)
        # Two riders, near and far; the one who came first and stays near goes.
        far = ((("rider", "far", 1),), ())
        self.assertEqual(web.row_to(far), ("rider", "rider", 0))
        plan = LONE.with_promise(Promise(Limit(3, a=1), YearLimit(3, a=1)))
        row = PlaceWeb(plan, {"s": 3}).row_to(((("a", "s", 1),), (("a", 3),)))
        self.assertEqual(row, ("a", "a", "a", 0, 1))

    def test_long_rows(self):
        plan = LONE.with_promise(Promise(Limit(3, a=1), YearLimit(400, a=1)))
        web = PlaceWeb(plan, {"s": 3})
        last = list(web)[-1]
        row = web.row_to(((), (("a", 400),)))
        self.assertEqual(len(row), 800)
        self.assertEqual(row[:3], ("a", "a", "a"))
        self.assertEqual(last, ((), (("a", 400),)))
        self.assertEqual([event for event in row if isinstance(event, int)], list(range(400)))

    def test_in_and_wrong_knots(self):
        web = PlaceWeb(LONE, {"s": 2})
        here = ((("a", "s", 1),), ())
        self.assertTrue(here in web and BEGIN in web)
        wrong = ANY + [
            ((("a", "s", True),), ()), ((("a", "s", 3),), ()), ([("a", "s", 1)], ()), [(("a", "s", 1),), ()], ((("a", "s", 1),),),
            ((("a", "s", 1),), (), ()), ((["a", "s", 1],), ()), ((("a", "s", 1),), []), ((("a", "s", 1),), (("a", 1),)), ((("b", "s", 1),), ()),
            ((("a", "s", 0),), ()), ((("a", "s", 1), ("a", "s", 1)), ()), (("a", "s", 1), ()), ((("a", "s", {}),), ()), (((), ()),),
        ]
        for value in wrong:
            with self.subTest(knot=value):
                self.assertFalse(value in web)
                self.raises(BadHouse("knot"), web.steps, value)
                self.raises(BadHouse("knot"), web.row_to, value)
        yearly = PlaceWeb(LONE.with_promise(Promise(Limit(1, a=1), YearLimit(1, a=1))), {"s": 1})
        self.assertTrue(((), (("a", 1),)) in yearly)
        for value in (((), (("a", True),)), ((), (["a", 1],)), ((), [("a", 1)]), BEGIN + ((),)):
            self.assertFalse(value in yearly)

    def test_20000_knots_and_more(self):
        for promise, most in ((Promise(Limit(19999, a=1)), 20000), (Promise(Limit(1, a=1), YearLimit(9999, a=1)), 19999)):
            web = PlaceWeb(LONE.with_promise(promise), {"s": GREATEST})
            self.assertEqual(len(web), most)
            self.assertEqual(len(web.row_to(list(web)[-1])), most - 1)
        for limits in ((Limit(20000, a=1),), (Limit(GREATEST, a=1),), (Limit(1, a=1), YearLimit(10000, a=1))):
            plan = LONE.with_promise(Promise(*limits))
            self.raises(TooMany("knots", 20000), PlaceWeb, plan, {"s": GREATEST})
            self.raises(TooMany("knots", 20000), judged_places, plan, {"s": GREATEST})
        self.assertEqual(len(PlaceWeb(LONE.with_promise(Promise(Limit(20000, a=1))), {"s": 19999})), 20000)

    def test_webs_do_not_change(self):
        web = PlaceWeb(PLAN, BAYS)
        before = web_steps(web)
        self.assertEqual(list(web), list(web))
        list(web).clear()
        self.assertEqual(web_steps(web), before)


class JudgedTest(StayTest):
    def test_judged(self):
        for plan, bays, _ in plans_and_bays(4, 30):
            web, paper = PlaceWeb(plan, bays), judged_places(plan, bays)
            self.assertEqual(paper, Housed(tuple(web)) if web else Crowded(web.refusal()))
            self.assertIs(bool(paper), bool(web))

    def test_least_bays_against_plain_trying(self):
        rng = random.Random(6)
        for _ in range(30):
            plan = some_plan(rng)
            names = plan_sites(plan)
            most = enough(plan)
            told = [()]
            for name in names:
                told = [numbers + (number,) for numbers in told for number in range(most[name] + 2)]
            right = [numbers for numbers in told if not plain_web(plan, dict(zip(names, numbers)), 5)[1]
                     and PlaceWeb(plan, dict(zip(names, numbers)))]
            least = [numbers for numbers in right
                     if not any(other != numbers and all(a <= b for a, b in zip(other, numbers)) for other in right)]
            self.assertEqual(least_bays(plan), tuple(Counts.of(dict(zip(names, numbers))) for numbers in least))

    def test_250_counts_and_251(self):
        plan = LONE.with_promise(Promise(Limit(249, a=1)))
        self.assertEqual(least_bays(plan), (Counts(s=249),))
        self.raises(TooMany("bays", 250), least_bays, LONE.with_promise(Promise(Limit(250, a=1))))
        two = Plan([Wish("a", [("s", 0), ("t", 0)])], [Site("s", "h", "g"), Site("t", "h", "g")], Promise(Limit(14, a=1)))
        self.assertEqual(len(least_bays(two)), 15)
        self.raises(TooMany("bays", 250), least_bays, two.with_promise(Promise(Limit(15, a=1))))

    def test_least_bays_too_many_knots(self):
        plan = LONE.with_promise(Promise(Limit(2, a=1), YearLimit(10000, a=1)))
        self.raises(TooMany("knots", 20000), least_bays, plan)
        # Only from two bays on there are too many knots, and one is enough.
        wish = LONE.with_promise(Promise(Limit(1, a=1), YearLimit(9999, a=1)))
        self.assertEqual(least_bays(wish), (Counts(s=1),))


if __name__ == "__main__":
    unittest.main()
