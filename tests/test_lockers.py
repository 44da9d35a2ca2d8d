"""Lockers: what is free, webs of halls, what is most there, least racks."""

import random
import unittest

from helpers import ANY, StayTest
from plain import play_places, is_refused, let_rows, plain_web, plans_and_bays, some_bays, some_plan
from test_places import no_bays

from stayhouse.counts import Counts
from stayhouse.errors import BadHouse, BadRule, BadStock, NoHall, TooMany
from stayhouse.fittings import By, Greatest, Order
from stayhouse.limits import Limit, YearLimit
from stayhouse.lockers import Fits, LockerWeb, Short, free_lockers, judged_hall, least_racks, most_there
from stayhouse.places import PlaceWeb
from stayhouse.plans import Plan
from stayhouse.promises import Promise
from stayhouse.racks import Rack
from stayhouse.sites import Site
from stayhouse.wishes import Wish

BAG, BOX = Wish("bag", [("bay", 0)], size=1), Wish("box", [("bay", 0)], size=2)
PLAN = Plan([BAG, BOX], [Site("bay", "hall", "gate")], Promise(Limit(2, bag=1, box=1), Limit(1, box=1)))
LONE = Plan([Wish("a", [("s", 0)], size=1)], [Site("s", "h", "g")], Promise(Limit(2, a=1)))
BEGIN = (((), ()), ())


def some_rack(rng):
    return Rack(*[rng.randint(0, 2) for _ in range(rng.randint(0, 4))])


class ErrorsTest(StayTest):
    def test_order(self):
        for value in ANY:
            for function in (LockerWeb, judged_hall):
                self.raises(BadHouse("plan"), function, value, 5, 5, 5)
                if value != "h":
                    self.raises(NoHall(value), function, LONE, {"s": 1}, value, 5)
                if not isinstance(value, Rack):
                    self.raises(BadStock("lockers"), function, LONE, {"s": 1}, "h", value)
            for function in (most_there, least_racks):
                self.raises(BadHouse("plan"), function, value, 5, 5)
                self.raises(NoHall(value), function, LONE, {"s": 1}, value)
        for value in no_bays(LONE):
            self.raises(BadStock("bays"), LockerWeb, LONE, value, 5, 5)
            self.raises(BadStock("bays"), judged_hall, LONE, value, 5, 5)
            self.raises(BadStock("bays"), most_there, LONE, value, 5)
            self.raises(BadStock("bays"), least_racks, LONE, value, 5)

    def test_by_name(self):
        told = {"plan": PLAN, "bays": {"bay": 2}, "hall": "hall"}
        self.assertEqual(len(LockerWeb(rack=Rack(1, 1), **told)), len(LockerWeb(PLAN, {"bay": 2}, "hall", Rack(1, 1))))
        self.assertEqual(judged_hall(rack=Rack(1, 1), **told), Short(("bag", "bag", 0, "box")))
        self.assertEqual(most_there(**told)[:2], (2, 1))
        self.assertEqual([str(rack) for rack in least_racks(**told)], ["2 2", "1 2 2 1"])
        self.assertEqual(free_lockers(rack=Rack(1), things=()), Rack(1))


class FreeLockersTest(StayTest):
    def test_free(self):
        rack = Rack(3, 0, 2, 0, 0, 0, 0, 0, 10 ** 39)
        things = (("a", "s", 1, 2), ("a", "s", 3, 1), ("b", "t", 3, 1), ("b", "t", 9, 10 ** 39 - 1))
        self.assertEqual(free_lockers(rack, things), Rack(1, 0, 0, 0, 0, 0, 0, 0, 1))
        self.assertEqual(free_lockers(rack, ()), rack)
        self.assertEqual(free_lockers(Rack(1), (("nobody", "nowhere", 1, 1),)), Rack())

    def test_wrong(self):
        for value in ANY:
            if not isinstance(value, Rack):
                self.raises(BadStock("lockers"), free_lockers, value, 5)
            if value != ():
                self.raises(BadHouse("things"), free_lockers, Rack(9, 9), value)
        wrong = [
            [("a", "s", 1, 1)], (["a", "s", 1, 1],), (("a", "s", 1),), (("a", "s", 1, 1, 1),), (("a", "s", 0, 1),), (("a", "s", 10, 1),),
            (("a", "s", True, 1),), (("a", "s", 1, True),), (("a", "s", 1, 0),), (("a", "s", 1, -1),), (("A", "s", 1, 1),), (("a", 1, 1, 1),),
            ((1, "s", 1, 1),), (("a", "s", "1", 1),), (("a", "s", 1, "1"),), (("b", "s", 1, 1), ("a", "s", 1, 1)),
            (("a", "s", 2, 1), ("a", "s", 1, 1)), (("a", "s", 1, 1), ("a", "s", 1, 1)), (("a", "s", 1, 1), ("a", "s", 1, 2)),
            (("a", "s", 1, 1), ()), (("self", "s", 1, 1),),
            # More than the rack has.
            (("a", "s", 1, 10),), (("a", "s", 1, 5), ("a", "t", 1, 5)), (("a", "s", 3, 1),),
        ]
        for value in wrong:
            with self.subTest(things=value):
                self.raises(BadHouse("things"), free_lockers, Rack(9, 9), value)


class WebTest(StayTest):
    def test_against_plain_trying(self):
        whole = 0
        for plan, bays, rng in plans_and_bays(21, 60):
            for hall in plan.halls:
                rack = some_rack(rng)
                web = LockerWeb(plan, bays, hall, rack)
                knots, refused = plain_web(plan, bays, 5, hall, rack)
                short = [knot for knot in web if len(web.row_to(knot)) <= 5]
                self.assertEqual(short, list(knots))
                self.assertEqual([web.row_to(knot) for knot in short], list(knots.values()))
                self.assertEqual([pair for pair in web.refused if len(web.row_to(pair[0])) < 5], list(refused))
                if refused:
                    self.assertEqual(web.refusal(), list(refused.values())[0])
                self.assertEqual((bool(web), web.refusal() is None), (not web.refused, not web.refused))
                self.assertEqual(judged_hall(plan, bays, hall, rack), Fits(tuple(web)) if web else Short(web.refusal()))
                whole += len(short) == len(web)
        self.assertGreater(whole, 40)

    def test_steps(self):
        for plan, bays, rng in plans_and_bays(22, 25):
            for hall in plan.halls:
                rack = some_rack(rng)
                web = LockerWeb(plan, bays, hall, rack)
                for knot in web:
                    row = web.row_to(knot)
                    steps = web.steps(knot)
                    comings = [step for step in steps if step[0] == "come"]
                    told = {name: play_places(plan, bays, row + (name,), hall, rack)[-1] for name in plan.names}
                    names = [name for name in plan.names if name in [step[1] for step in comings]]
                    self.assertEqual([step[:4] for step in comings], [told[name] for name in names])
                    goings = sorted({(name, site, locker) for name, site, _ in knot[0][0] for locker in
                                     [entry[2] for entry in knot[1] if entry[:2] == (name, site)] or [0]})
                    self.assertEqual([step[:4] for step in steps[len(comings):]], [("go",) + thing for thing in goings])
                    self.assertTrue(all(step[4] in web for step in steps))

    def test_things_in_other_halls(self):
        plan = Plan([Wish("a", [("s", 0)], size=2), Wish("b", [("t", 0)], size=1), Wish("c", [("s", 0)])],
                    [Site("s", "h", "g"), Site("t", "k", "g")], Promise(Limit(1, a=1, b=1, c=1)))
        web = LockerWeb(plan, {"s": 1, "t": 1}, "h", Rack(0, 0, 1))
        steps = web.steps(BEGIN)
        self.assertEqual([step[:4] for step in steps], [("come", "a", "s", 3), ("come", "b", "t", 0), ("come", "c", "s", 0)])
        self.assertEqual([step[4][1] for step in steps], [(("a", "s", 3, 1),), (), ()])
        self.assertEqual(len(LockerWeb(plan, {"s": 1, "t": 1}, "k", Rack())), 3)
        self.assertEqual(LockerWeb(plan, {"s": 1, "t": 1}, "k", Rack()).refused, ((BEGIN, "b"),))

    def test_places_refuse(self):
        # The second guest is refused by places: that is no refusal of the hall.
        web = LockerWeb(LONE, {"s": 1}, "h", Rack(1))
        self.assertEqual((len(web), bool(web), web.refused, web.refusal()), (2, True, (), None))
        self.assertEqual(judged_hall(LONE, {"s": 1}, "h", Rack(1)), Fits(tuple(web)))
        self.assertEqual(judged_hall(LONE, {"s": 2}, "h", Rack(1)), Short(("a", "a")))
        self.assertEqual(judged_hall(LONE, {}, "h", Rack()), Fits((BEGIN,)))

    def test_lockers_come_back(self):
        # Behind each going just his locker is free again, in each year.
        plan = LONE.with_promise(Promise(Limit(3, a=1), YearLimit(6, a=1)))
        web = LockerWeb(plan, {"s": 3}, "h", Rack(1, 1))
        knots, refused = plain_web(plan, {"s": 3}, 9, "h", Rack(1, 1))
        short = [knot for knot in web if len(web.row_to(knot)) <= 9]
        self.assertEqual(short, list(knots))
        self.assertEqual([pair for pair in web.refused if len(web.row_to(pair[0])) < 9], list(refused))
        self.assertEqual(web.refusal(), ("a", "a", "a"))
        self.assertIn(((((("a", "s", 2),), (("a", 5),)), (("a", "s", 1, 1), ("a", "s", 2, 1))), "a"), web.refused)

    def test_fittings(self):
        cases = ((None, 1), (Greatest(), 3), (Order({1: [2, 3]}), 2), (By(lambda free, size: 3 if 3 in free else None), 3))
        for fitting, locker in cases:
            plan = LONE if fitting is None else LONE.with_fitting("h", fitting)
            web = LockerWeb(plan, {"s": 2}, "h", Rack(1, 1, 1))
            self.assertEqual(web.steps(BEGIN)[0][3], locker)
            # The last one has no second locker of size 3, an order none of size 1.
            self.assertIs(bool(web), not (isinstance(fitting, By)))
        plan = LONE.with_fitting("h", By(lambda free, size: 9))
        self.raises(BadRule("locker"), LockerWeb, plan, {"s": 2}, "h", Rack(1))

    def test_in_and_wrong_knots(self):
        web = LockerWeb(LONE, {"s": 2}, "h", Rack(1, 1))
        here = (((("a", "s", 1),), ()), (("a", "s", 1, 1),))
        self.assertTrue(here in web and BEGIN in web)
        below = here[0]
        for value in ANY + [below, ((), ()), (below, ()), (below, (("a", "s", 1, True),)), (below, (("a", "s", True, 1),)),
                            (below, [("a", "s", 1, 1)]), list(here), here + ((),), ((below[0],), here[1]), (below, (("a", "s", 3, 1),)),
                            (((("a", "s", True),), ()), here[1]), (below, (["a", "s", 1, 1],)), (below, (("a", "s", 1),)), (below, None),
                            (([("a", "s", 1)], ()), here[1]), ((below[0], []), here[1]), (below, ([],))]:
            with self.subTest(knot=value):
                self.assertFalse(value in web)
                self.raises(BadHouse("knot"), web.steps, value)
                self.raises(BadHouse("knot"), web.row_to, value)

    def test_20000_knots_and_more(self):
        for limit, error in ((19999, False), (20000, True)):
            plan = LONE.with_promise(Promise(Limit(limit, a=1)))
            if error:
                for function in (LockerWeb, judged_hall):
                    self.raises(TooMany("knots", 20000), function, plan, {"s": limit}, "h", Rack(limit))
            else:
                self.assertEqual(len(LockerWeb(plan, {"s": limit}, "h", Rack(limit))), 20000)
        # The hall refuses the second guest: so there are few knots.
        self.assertEqual(len(LockerWeb(plan, {"s": 20000}, "h", Rack(1))), 2)
        self.raises(TooMany("knots", 20000), most_there, plan, {"s": 20000}, "h")
        self.raises(TooMany("knots", 20000), least_racks, plan, {"s": 20000}, "h")

    def test_what_it_returns_is_the_same_again(self):
        web = LockerWeb(PLAN, {"bay": 2}, "hall", Rack(2, 2))
        self.assertEqual([web.row_to(knot) for knot in web], [LockerWeb(PLAN, {"bay": 2}, "hall", Rack(2, 2)).row_to(knot) for knot in web])
        self.assertEqual(list(web)[0], BEGIN)


class MostTest(StayTest):
    def test_against_plain_trying(self):
        for plan, bays, _ in plans_and_bays(23, 60):
            for hall in plan.halls:
                most = [0] * 9
                taken = {()}
                for row in let_rows(plan, 5, lambda row: row in taken):
                    told = play_places(plan, bays, row)
                    if not is_refused(told):
                        taken.add(row)
                        sizes = []
                        for kind, name, site, _ in told:
                            if plan.site_of(site).hall == hall:
                                sizes.append(plan[name].size) if kind == "come" else sizes.remove(plan[name].size)
                        for size in range(1, 10):
                            most[size - 1] = max(most[size - 1], len([one for one in sizes if one >= size]))
                web = PlaceWeb(plan, bays)
                if max(len(web.row_to(knot)) for knot in web) <= 5:
                    self.assertEqual(most_there(plan, bays, hall), tuple(most))
                else:
                    self.assertTrue(all(a >= b for a, b in zip(most_there(plan, bays, hall), most)))

    def test_rows_end_where_places_refuse(self):
        self.assertEqual(most_there(LONE, {"s": 1}, "h"), (1,) + (0,) * 8)
        self.assertEqual(most_there(LONE, {}, "h"), (0,) * 9)


    def test_sizes_from_1_to_9(self):
        wishes = [Wish("a", [("s", 0)], size=9), Wish("b", [("s", 0)], size=8), Wish("c", [("s", 0)], size=1)]
        plan = Plan(wishes, [Site("s", "h", "g")], Promise(Limit(4, a=2, b=1, c=1), Limit(2, b=2, c=1)))
        self.assertEqual(most_there(plan, {"s": 4}, "h"), (3, 2, 2, 2, 2, 2, 2, 2, 2))
        self.assertEqual(most_there(plan.with_promise(Promise(Limit(1, a=1, b=1), Limit(2, c=1))), {"s": 4}, "h"), (3,) + (1,) * 8)


class LeastRacksTest(StayTest):
    def test_greatest_sizes(self):
        wishes = [Wish("a", [("s", 0)], size=9), Wish("b", [("s", 0)], size=8)]
        plan = Plan(wishes, [Site("s", "h", "g")], Promise(Limit(2, a=1, b=1), Limit(1, a=1)))
        self.assertEqual([rack.nine[6:] for rack in least_racks(plan, {"s": 2}, "h")], [(0, 0, 2), (0, 2, 1)])
        only = Plan(wishes[:1], [Site("s", "h", "g")], Promise(Limit(2, a=1)))
        self.assertEqual(least_racks(only, {"s": 2}, "h"), (Rack(0, 0, 0, 0, 0, 0, 0, 0, 2),))

    def test_against_plain_trying(self):
        rng = random.Random(24)
        compared = 0
        while compared < 25:
            plan = some_plan(rng)
            bays = some_bays(rng, plan)
            hall = rng.choice(plan.halls)
            sizes = sorted({plan[name].size for name, site in plan.pairs if plan.site_of(site).hall == hall} - {0})
            most = most_there(plan, bays, hall)[0]
            if max(len(PlaceWeb(plan, bays).row_to(knot)) for knot in PlaceWeb(plan, bays)) > 5 or (most + 1) ** len(sizes) > 30:
                continue
            compared += 1
            told = [{}]
            for size in sizes:
                told = [{**numbers, size: number} for numbers in told for number in range(most + 1)]
            racks = [Rack.of(numbers) for numbers in told]
            right = [rack for rack in racks if not plain_web(plan, bays, 6, hall, rack)[1]]
            least = [rack for rack in right if not any(other < rack for other in right)]
            self.assertEqual(least_racks(plan, bays, hall), tuple(sorted(least, key=lambda rack: (rack.total,) + rack.nine[::-1])))

    def test_order(self):
        three = Plan([Wish("a", [("s", 0)], size=1), Wish("b", [("s", 0)], size=2), Wish("c", [("s", 0)], size=4)], [Site("s", "h", "g")],
                     Promise(Limit(2, a=1, b=1, c=1), Limit(1, c=1), Limit(1, b=1)))
        racks = least_racks(three, {"s": 2}, "h")
        self.assertEqual(list(racks), sorted(racks, key=lambda rack: (rack.total,) + rack.nine[::-1]))
        self.assertGreater(len(racks), 1)
        for rack in racks:
            self.assertFalse(any(other < rack for other in racks))

    def test_nobody_has_anything(self):
        plan = Plan([Wish("a", [("s", 0)])], [Site("s", "h", "g"), Site("t", "k", "g")], Promise(Limit(2, a=1)))
        for hall in ("h", "k"):
            self.assertEqual(least_racks(plan, {"s": 2}, hall), (Rack(),))
        self.assertEqual(least_racks(LONE, {}, "h"), (Rack(),))

    def test_no_right_rack(self):
        plan = LONE.with_fitting("h", Order({}))
        self.assertEqual(least_racks(plan, {"s": 2}, "h"), ())

    def test_more_lockers_can_hurt_the_hall(self):
        # The greatest one is given away first: with a second small one the great one is still gone.
        plan = PLAN.with_fitting("hall", Greatest())
        racks = least_racks(plan, {"bay": 2}, "hall")
        self.assertEqual([str(rack) for rack in racks], ["2 2"])

    def test_250_racks_and_251(self):
        plan = LONE.with_promise(Promise(Limit(249, a=1)))
        self.assertEqual(least_racks(plan, {"s": 249}, "h"), (Rack(249),))
        self.raises(TooMany("racks", 250), least_racks, LONE.with_promise(Promise(Limit(250, a=1))), {"s": 250}, "h")
        # Fewer bays, fewer things: then there are fewer racks to look at.
        self.assertEqual(least_racks(LONE.with_promise(Promise(Limit(250, a=1))), {"s": 3}, "h"), (Rack(3),))

    def test_too_many_knots_of_a_hall(self):
        plan = PLAN.with_promise(Promise(Limit(2, bag=1, box=1), YearLimit(78, bag=1), YearLimit(41, box=1)))
        self.assertLess(len(PlaceWeb(plan, Counts(bay=2))), 20000)
        self.raises(TooMany("knots", 20000), LockerWeb, plan, {"bay": 2}, "hall", Rack(1, 2))
        self.raises(TooMany("knots", 20000), least_racks, plan, {"bay": 2}, "hall")


if __name__ == "__main__":
    unittest.main()
