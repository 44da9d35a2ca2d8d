"""Plans: made, asked, changed and refused."""

import inspect
import unittest

from stayhouse.errors import BadPlan, NoHall, NoSite, NoWish, Unbounded
from stayhouse.fittings import By, Fitting, Greatest, Least, Order
from stayhouse.limits import Limit, YearLimit
from stayhouse.plans import Plan
from stayhouse.promises import Promise
from stayhouse.sites import Site
from stayhouse.wishes import Wish

from helpers import ANY, StayTest, is_any_name

RIDE = Wish("rider", [("near", 0), ("far", 0)], cart=True, back="aside", price=5)
WALK = Wish("walker", [("far", 0)], size=2)
NEAR, FAR = Site("near", "east", "front", 1), Site("far", "west", "back", 2)
PROMISE = Promise(Limit(3, rider=1, walker=1), YearLimit(9, walker=2))


def plan_with(wishes=(WALK, RIDE), sites=(NEAR, FAR), promise=PROMISE, fittings=None, lines=None):
    return Plan(wishes, sites, promise, fittings, lines)


def wide_promise(names):
    return Promise(Limit.of(1, {name: 1 for name in names}))


class MadeTest(StayTest):
    def test_ordinary(self):
        for plan in (plan_with(), Plan(wishes=[WALK, RIDE], sites=[FAR, NEAR], promise=PROMISE, fittings={}, lines=2)):
            self.same(plan.wishes, (WALK, RIDE))
            self.same(plan.sites, (FAR, NEAR))
            self.same(plan.promise, PROMISE)
            self.same([plan.lines, plan.names, plan.halls, plan.gates], [2, ("walker", "rider"), ("east", "west"), ("aside", "back", "front")])
            self.same(plan.counted, ("walker",))
            self.same(plan.pairs, (("rider", "far"), ("rider", "near"), ("walker", "far")))
            self.same([len(plan), list(plan), bool(plan)], [2, ["walker", "rider"], True])
        self.assertEqual(list(inspect.signature(Plan).parameters), ["wishes", "sites", "promise", "fittings", "lines"])

    def test_one_hall_and_gate_for_several(self):
        sites = [Site(name, "hall", "gate") for name in "dcba"]
        wishes = [Wish("b", [("d", 0), ("a", 0)]), Wish("a", [("a", 0)], cart=True, back="gate")]
        plan = Plan(wishes, sites, Promise(Limit(1, a=1, b=1), YearLimit(1, a=1, b=1)))
        self.same([plan.halls, plan.gates, [site.name for site in plan.sites]], [("hall",), ("gate",), ["a", "b", "c", "d"]])
        self.same([plan.pairs, plan.counted, plan.names], [(("a", "a"), ("b", "a"), ("b", "d")), ("b", "a"), ("b", "a")])

    def test_lines(self):
        self.assertEqual([plan_with(lines=lines).lines for lines in (None, 2, 3, 6)], [2, 2, 3, 6])
        for value in ANY + [1, 7]:
            if value is not None and not (type(value) is int and 2 <= value <= 6):
                self.raises(BadPlan("lines"), plan_with, lines=value)

    def test_wrong_wishes(self):
        for value in ANY:
            self.raises(BadPlan("wishes"), plan_with, value)
            if not isinstance(value, Wish):
                self.raises(BadPlan("wishes"), plan_with, [RIDE, value])
        for wishes in ([], (), [RIDE, WALK, RIDE], [RIDE, RIDE.with_price(1)], {RIDE.name: RIDE}, RIDE):
            self.raises(BadPlan("wishes"), plan_with, wishes)
        many = [Wish(name, [("far", 0)]) for name in "abcdefghi"]
        promise = wide_promise("abcdefgh")
        self.assertEqual(len(plan_with(many[:8], promise=promise)), 8)
        self.raises(BadPlan("wishes"), plan_with, many, promise=promise)

    def test_wrong_sites(self):
        for value in ANY:
            self.raises(BadPlan("sites"), plan_with, sites=value)
            if not isinstance(value, Site):
                self.raises(BadPlan("sites"), plan_with, sites=[NEAR, FAR, value])
        many = [NEAR, FAR] + [Site(name, "a", "b") for name in "abcdefg"]
        self.assertEqual(len(plan_with(sites=many[:8]).sites), 8)
        for sites in (many, [NEAR, FAR, NEAR], [NEAR, FAR, NEAR.with_hall("x")], []):
            self.raises(BadPlan("sites"), plan_with, sites=sites)

    def test_wrong_promise_and_fittings(self):
        for value in ANY:
            if not isinstance(value, Promise):
                self.raises(BadPlan("promise"), plan_with, promise=value)
            if value is not None and value != {}:
                self.raises(BadPlan("fittings"), plan_with, fittings=value)
            self.raises(BadPlan("fittings"), plan_with, fittings={"east": Least(), "west": value})
            if value.__class__ in (int, bool, str, tuple, type(None)) and not is_any_name(value):
                self.raises(BadPlan("fittings"), plan_with, fittings={"east": Least(), value: Least()})
        self.raises(BadPlan("fittings"), plan_with, fittings=[("east", Least())])

    def test_names_that_lack(self):
        wishes = [Wish("a", [("far", 0), ("x", 0)]), Wish("b", [("y", 0)])]
        promise = wide_promise("ab")
        self.raises(NoSite("x"), plan_with, wishes, promise=promise)
        self.raises(NoSite("y"), plan_with, wishes[::-1], promise=promise)
        self.raises(NoHall("north"), plan_with, fittings={"east": Least(), "north": Least(), "front": Least()})
        self.raises(NoHall("front"), plan_with, fittings={"front": Least(), "north": Least()})
        self.raises(NoWish("cook"), plan_with, promise=PROMISE & Promise(Limit(1, dog=1, rider=1), YearLimit(1, cook=1)))
        self.raises(NoWish("dog"), plan_with, promise=PROMISE & Promise(Limit(1, rider=1, dog=1)))
        self.raises(Unbounded("promise"), plan_with, promise=Promise())
        self.raises(Unbounded("promise"), plan_with, promise=Promise(Limit(2, rider=1), YearLimit(1, walker=1)))
        self.assertEqual(plan_with(promise=Promise(Limit(0, rider=1, walker=1))).counted, ())

    def test_first_error(self):
        wrong = {"wishes": [], "sites": [], "promise": None, "fittings": [], "lines": 0}
        for part in list(wrong):
            self.raises(BadPlan(part), plan_with, **wrong)
            del wrong[part]
        no_site, no_hall = [Wish("a", [("x", 0)])], {"x": Least()}
        other = Promise(Limit(1, z=1))
        self.raises(BadPlan("lines"), plan_with, no_site, fittings=no_hall, promise=other, lines=1)
        self.raises(NoSite("x"), plan_with, no_site, fittings=no_hall, promise=other)
        self.raises(NoHall("x"), plan_with, fittings=no_hall, promise=other)
        self.raises(NoWish("z"), plan_with, promise=other)

    def test_later_changes(self):
        wishes, sites, fittings = [WALK, RIDE], [NEAR, FAR], {"east": Least()}
        plan = plan_with(wishes, sites, fittings=fittings)
        wishes.clear()
        sites.clear()
        fittings["east"] = Greatest()
        fittings["west"] = Greatest()
        self.same([plan.wishes, plan.sites, plan.fitting_of("east"), plan.fitting_of("west")],
                  [(WALK, RIDE), (FAR, NEAR), Least(), None])


class AskedTest(StayTest):
    def test_any_values(self):
        plan = plan_with(fittings={"west": Greatest()})
        self.same([plan["rider"], plan["walker"], plan.site_of("far"), plan.site_of(name="near")], [RIDE, WALK, FAR, NEAR])
        self.same([plan.fitting_of("west"), plan.fitting_of(hall="east")], [Greatest(), None])
        self.same(["rider" in plan, "walker" in plan, "far" in plan], [True, True, False])
        for value in ANY + ["far", "east", "front"]:
            self.assertIs(value in plan, False)
            self.raises(NoWish(value), lambda: plan[value])
            if value != "far":
                self.raises(NoSite(value), plan.site_of, value)
            if value != "east":
                self.raises(NoHall(value), plan.fitting_of, value)

    def test_equality(self):
        plan = plan_with(fittings={"east": Least(), "west": Order({1: [2]})}, lines=3)
        self.assertEqual(plan, plan_with(sites=[FAR, NEAR], fittings={"west": Order({1: (2,)}), "east": Least()}, lines=3))
        self.assertEqual(plan_with(), plan_with(lines=2, fittings={}))
        for other in (plan_with([RIDE, WALK], fittings={"east": Least(), "west": Order({1: [2]})}, lines=3),
                      plan_with(fittings={"east": Least(), "west": Order({1: [2]})}, lines=4),
                      plan_with(fittings={"east": Least()}, lines=3), plan_with(lines=3),
                      plan_with(fittings={"east": Least(), "west": Order({1: [3]})}, lines=3),
                      plan.with_wish(RIDE.with_price(6)), plan.with_site(NEAR.with_gate("x")), plan.with_promise(wide_promise(["rider", "walker"]))):
            self.assertNotEqual(plan, other)
        for value in ANY:
            self.assertIs(plan == value, False)
        # A fitting that was told is another thing than none, though both are the least.
        self.assertNotEqual(plan_with(fittings={"east": Least()}), plan_with())


class ChangedTest(StayTest):
    def setUp(self):
        self.plan = plan_with(fittings={"east": Greatest()}, lines=3)

    def test_with_wish(self):
        other = Wish("walker", [("near", 2)])
        self.assertEqual(self.plan.with_wish(other), plan_with([other, RIDE], fittings={"east": Greatest()}, lines=3))
        for value in ANY:
            if not isinstance(value, Wish):
                self.raises(BadPlan("wishes"), self.plan.with_wish, value)
        self.raises(NoWish("runner"), self.plan.with_wish, Wish("runner", [("nowhere", 0)]))
        self.raises(NoSite("nowhere"), self.plan.with_wish, Wish("rider", [("nowhere", 0)]))

    def test_with_site(self):
        other = Site("near", "north", "side", 3)
        self.assertEqual(self.plan.with_site(FAR.with_hall("east")),
                         plan_with(sites=[NEAR, FAR.with_hall("east")], fittings={"east": Greatest()}, lines=3))
        self.assertEqual(self.plan.with_site(Site("mid", "mid", "mid", 3)),
                         plan_with(sites=[NEAR, FAR, Site("mid", "mid", "mid", 3)], fittings={"east": Greatest()}, lines=3))
        self.assertEqual(plan_with().with_site(site=NEAR.with_line(2)).lines, 2)
        # Here nothing is left of the hall that has a fitting.
        self.raises(NoHall("east"), self.plan.with_site, other)
        self.raises(BadPlan("lines"), self.plan.with_site, NEAR.with_line(4))
        self.raises(BadPlan("lines"), plan_with().with_site, NEAR.with_line(3))
        for value in ANY:
            if not isinstance(value, Site):
                self.raises(BadPlan("sites"), self.plan.with_site, value)
        plan = self.plan
        for name in "abcdef":
            plan = plan.with_site(Site(name, "h", "g"))
        self.assertEqual([site.name for site in plan.sites], ["a", "b", "c", "d", "e", "f", "far", "near"])
        self.raises(BadPlan("sites"), plan.with_site, Site("g", "h", "g"))
        self.assertEqual(plan.with_site(Site("a", "x", "y")).halls, ("east", "h", "west", "x"))

    def test_lines_stay(self):
        low = self.plan.with_site(FAR.with_line(1))
        self.assertEqual([low.lines, plan_with().with_site(FAR.with_line(1)).lines], [3, 2])

    def test_with_promise(self):
        promise = Promise(Limit(1, rider=1, walker=1))
        self.assertEqual(self.plan.with_promise(promise), plan_with(promise=promise, fittings={"east": Greatest()}, lines=3))
        for value in ANY:
            if not isinstance(value, Promise):
                self.raises(BadPlan("promise"), self.plan.with_promise, value)
        self.raises(Unbounded("promise"), self.plan.with_promise, promise=Promise(Limit(1, rider=1)))
        self.raises(NoWish("a"), self.plan.with_promise, Promise(Limit(1, a=1)))

    def test_with_fitting(self):
        by = By(lambda free, size: None)
        self.assertEqual(self.plan.with_fitting("east", by), plan_with(fittings={"east": by}, lines=3))
        self.assertEqual(self.plan.with_fitting(hall="west", fitting=Least()),
                         plan_with(fittings={"east": Greatest(), "west": Least()}, lines=3))
        for value in ANY:
            self.raises(BadPlan("fittings"), self.plan.with_fitting, "east", value)
            self.raises(BadPlan("fittings"), self.plan.with_fitting, "nohall", value)
            if not is_any_name(value):
                self.raises(BadPlan("fittings"), self.plan.with_fitting, value, Least())
            else:
                self.raises(NoHall(value), self.plan.with_fitting, value, Least())
        self.same(self.plan.fitting_of("west"), None)
        self.assertIsInstance(self.plan.fitting_of("east"), Fitting)


if __name__ == "__main__":
    unittest.main()
