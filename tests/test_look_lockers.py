"""Papers of halls that are looked at."""

import random
import unittest

from helpers import ANY, StayTest
from plain import plans_and_bays
from plain_looks import changed_once, plain_crowded, plain_fits
from test_lockers import BEGIN, LONE, PLAN, some_rack
from test_places import no_bays

from stayhouse.errors import BadHouse, BadStock, NoHall
from stayhouse.fittings import By
from stayhouse.limits import Limit, YearLimit
from stayhouse.lockers import Fits, Short, judged_hall
from stayhouse.look_lockers import shows_hall
from stayhouse.plans import Plan
from stayhouse.promises import Promise
from stayhouse.racks import Rack
from stayhouse.sites import Site
from stayhouse.wishes import Wish


class LookLockersTest(StayTest):
    def test_errors(self):
        for value in ANY:
            self.raises(BadHouse("plan"), shows_hall, value, 5, 5, 5, 5)
            self.raises(NoHall(value), shows_hall, LONE, {"s": 1}, value, 5, 5)
            if not isinstance(value, Rack):
                self.raises(BadStock("lockers"), shows_hall, LONE, {"s": 1}, "h", value, 5)
        for value in no_bays(LONE):
            self.raises(BadStock("bays"), shows_hall, LONE, value, 5, 5, 5)

    def test_other_values(self):
        for value in ANY + [Fits, Short, BEGIN, (BEGIN,), ((), ()), (((), ()),)]:
            self.assertIs(shows_hall(LONE, {"s": 2}, "h", Rack(2), value), False)
            self.assertIs(shows_hall(LONE, {"s": 2}, "h", Rack(2), Fits(value)), False)
            self.assertIs(shows_hall(LONE, {}, "h", Rack(2), Fits(value)), value == (BEGIN,))
            self.assertIs(shows_hall(LONE, {"s": 2}, "h", Rack(), Short(value)), value == ("a",))

    def test_by_name(self):
        paper = judged_hall(LONE, {"s": 2}, "h", Rack(2))
        self.assertIs(shows_hall(plan=LONE, bays={"s": 2}, hall="h", rack=Rack(2), value=paper), True)

    def test_judged_and_changed(self):
        rng = random.Random(31)
        right = wrong = 0
        for plan, bays, _ in plans_and_bays(32, 60):
            hall, rack = rng.choice(plan.halls), some_rack(rng)
            paper = judged_hall(plan, bays, hall, rack)
            self.assertIs(shows_hall(plan, bays, hall, rack, paper), True)
            kept = paper.kept()[0]
            if len(kept) > 60:
                continue
            for _ in range(25):
                changed = changed_once(rng, kept)
                if paper:
                    told, expected = Fits(changed), plain_fits(plan, bays, hall, rack, changed)
                else:
                    told, expected = Short(changed), plain_crowded(plan, bays, changed, hall, rack)
                self.assertIs(shows_hall(plan, bays, hall, rack, told), expected, changed)
                right += expected
                wrong += not expected
            if paper:
                for at in range(len(kept)):
                    self.assertIs(shows_hall(plan, bays, hall, rack, Fits(kept[:at] + kept[at + 1:])), False)
            self.assertIs(shows_hall(plan, bays, hall, rack, type(paper)(list(kept))), False)
        self.assertGreater(right, 20)
        self.assertGreater(wrong, 300)

    def test_other_hall(self):
        rng = random.Random(33)
        for plan, bays, _ in plans_and_bays(34, 50):
            hall, rack, other = rng.choice(plan.halls), some_rack(rng), some_rack(rng)
            paper = judged_hall(plan, bays, hall, rack)
            kept = paper.kept()[0]
            if len(kept) <= 60:
                expected = plain_fits(plan, bays, hall, other, kept) if paper else plain_crowded(plan, bays, kept, hall, other)
                self.assertIs(shows_hall(plan, bays, hall, other, paper), expected)

    def test_things_are_just_theirs(self):
        plan = PLAN.with_promise(Promise(Limit(1, bag=1, box=1)))
        bag, box = (("bag", "bay", 1),), (("box", "bay", 1),)
        right = (BEGIN, ((bag, ()), (("bag", "bay", 1, 1),)), ((box, ()), (("box", "bay", 2, 1),)))
        self.assertIs(shows_hall(plan, {"bay": 1}, "hall", Rack(1, 1), Fits(right)), True)
        # A further one: a bag in the greater locker.
        further = ((bag, ()), (("bag", "bay", 2, 1),))
        self.assertIs(shows_hall(plan, {"bay": 1}, "hall", Rack(1, 1), Fits(right + (further,))), True)
        for wrong in (((bag, ()), ()), ((bag, ()), (("bag", "bay", 3, 1),)), ((box, ()), (("box", "bay", 1, 1),)), ((), ()), (bag, ()),
                      ((bag, ()), (("bag", "bay", 1, 2),)), ((bag, ()), (("bag", "bay", 1, 1), ("box", "bay", 2, 1))),
                      (((), ()), (("bag", "bay", 1, 1),)), ((bag, ()), (("bag", "bay", 10, 1),)), ((bag, ()), (("bag", "bay", 0, 1),))):
            self.assertIs(shows_hall(plan, {"bay": 1}, "hall", Rack(1, 1), Fits(right + (wrong,))), False, wrong)

    def test_hall_refuses(self):
        # A coming that places take and the hall does not: then no Fits is right.
        self.assertIs(shows_hall(LONE, {"s": 1}, "h", Rack(), Fits((BEGIN,))), False)
        self.assertIs(shows_hall(LONE, {}, "h", Rack(), Fits((BEGIN,))), True)
        one = (((("a", "s", 1),), ()), (("a", "s", 1, 1),))
        self.assertIs(shows_hall(LONE, {"s": 2}, "h", Rack(1), Fits((BEGIN, one))), False)
        self.assertIs(shows_hall(LONE, {"s": 1}, "h", Rack(1), Fits((BEGIN, one))), True)

    def test_further_knots_keep_the_promise_and_the_bays(self):
        one = (((("a", "s", 1),), ()), (("a", "s", 1, 1),))
        two = (((("a", "s", 2),), ()), (("a", "s", 1, 2),))
        alone = LONE.with_promise(Promise(Limit(1, a=1)))
        self.assertIs(shows_hall(alone, {"s": 2}, "h", Rack(2), Fits((BEGIN, one))), True)
        self.assertIs(shows_hall(alone, {"s": 2}, "h", Rack(2), Fits((BEGIN, one, two))), False)
        self.assertIs(shows_hall(LONE, {"s": 1}, "h", Rack(2), Fits((BEGIN, one, two))), False)
        self.assertIs(shows_hall(LONE, {"s": 2}, "h", Rack(2), Fits((BEGIN, one, two))), True)
        self.assertIs(shows_hall(LONE, {"s": 2}, "h", Rack(2), Fits((BEGIN, two))), False)

    def test_things_of_guests_elsewhere(self):
        plan = Plan([Wish("a", [("s", 0)], size=2), Wish("b", [("t", 0)], size=1), Wish("c", [("s", 0)])],
                    [Site("s", "h", "g"), Site("t", "k", "g")], Promise(Limit(1, a=1, b=1, c=1)))
        bays = {"s": 1, "t": 1}
        right = judged_hall(plan, bays, "h", Rack(0, 1)).knots
        self.assertIs(shows_hall(plan, bays, "h", Rack(0, 1), Fits(right)), True)
        for wrong in ((((("b", "t", 1),), ()), (("b", "t", 2, 1),)), (((("c", "s", 1),), ()), (("c", "s", 2, 1),))):
            self.assertIs(shows_hall(plan, bays, "h", Rack(0, 1), Fits(right + (wrong,))), False)

    def test_true_is_one_as_python_compares(self):
        plan = LONE.with_promise(Promise(Limit(1, a=1)))
        for locker, number in ((True, 1), (1, True), (True, True)):
            knots = (BEGIN, (((("a", "s", number),), ()), (("a", "s", locker, number),)))
            self.assertIs(shows_hall(plan, {"s": 1}, "h", Rack(1), Fits(knots)), True)
            again = knots + ((((("a", "s", 1),), ()), (("a", "s", 1, 1),)),)
            self.assertIs(shows_hall(plan, {"s": 1}, "h", Rack(1), Fits(again)), False)

    def test_places_refuse(self):
        # A coming that places refuse is none of the hall's.
        self.assertIs(shows_hall(LONE, {"s": 1}, "h", Rack(1), judged_hall(LONE, {"s": 1}, "h", Rack(1))), True)
        self.assertIs(shows_hall(LONE, {"s": 1}, "h", Rack(1), Short(("a", "a"))), False)
        self.assertIs(shows_hall(LONE, {"s": 2}, "h", Rack(1), Short(("a", "a"))), True)
        self.assertIs(shows_hall(LONE, {"s": 2}, "h", Rack(1), Short(("a", "a", 1))), False)
        three = LONE.with_promise(Promise(Limit(3, a=1)))
        self.assertIs(shows_hall(three, {"s": 3}, "h", Rack(1), Short(("a", "a", "a"))), False)
        self.assertIs(shows_hall(three, {"s": 1}, "h", Rack(), Short(("a", "a"))), False)

    def test_rows_of_2000_events_and_2001(self):
        for limit, lockers, goings, expected in ((2, 1, 999, True), (2, 1, 1000, False), (3, 2, 998, True), (3, 2, 999, False)):
            plan = LONE.with_promise(Promise(Limit(limit, a=1)))
            row = ("a",) * lockers + tuple(event for number in range(goings) for event in (number, "a")) + ("a",)
            self.assertIs(shows_hall(plan, {"s": 3}, "h", Rack(lockers), Short(row)), expected, len(row))
        self.assertEqual(len(row), 2001)

    def test_20000_knots_and_more(self):
        plan = LONE.with_promise(Promise(Limit(1, a=1), YearLimit(9999, a=1)))
        told = judged_hall(plan, {"s": 1}, "h", Rack(1)).knots
        here = ((("a", "s", 1),), ())
        self.assertEqual(len(told), 19999)
        self.assertIs(shows_hall(plan, {"s": 1}, "h", Rack(1), Fits(told + ((here, (("a", "s", 1, 1),)),))), True)
        great = LONE.with_promise(Promise(Limit(20000, a=1)))
        knots = tuple((((("a", "s", number),), ()), (("a", "s", 1, number),)) for number in range(1, 20001))
        self.assertIs(shows_hall(great, {"s": 20000}, "h", Rack(20000), Fits((BEGIN,) + knots)), False)
        less = LONE.with_promise(Promise(Limit(19999, a=1)))
        self.assertIs(shows_hall(less, {"s": 20000}, "h", Rack(20000), Fits((BEGIN,) + knots[:-1])), True)

    def test_fitting_by(self):
        plan = LONE.with_fitting("h", By(lambda free, size: 2 if 2 in free else None))
        self.assertEqual(judged_hall(plan, {"s": 2}, "h", Rack(1, 1)), Short(("a", "a")))
        self.assertIs(shows_hall(plan, {"s": 2}, "h", Rack(1, 1), Short(("a", "a"))), True)
        self.assertIs(shows_hall(LONE, {"s": 2}, "h", Rack(1, 1), Short(("a", "a"))), False)


if __name__ == "__main__":
    unittest.main()
