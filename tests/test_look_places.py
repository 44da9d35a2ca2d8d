"""Papers of places that are looked at."""

import random
import unittest

from helpers import ANY, StayTest
from plain import plans_and_bays
from plain_looks import changed_once, plain_crowded, plain_housed, plain_steps
from test_places import BAYS, LONE, PLAN, no_bays

from stayhouse.counts import Counts
from stayhouse.errors import BadHouse, BadStock
from stayhouse.limits import Limit, YearLimit
from stayhouse.look_places import shows_places
from stayhouse.places import Crowded, Housed, judged_places
from stayhouse.promises import Promise

BEGIN = ((), ())


class LookPlacesTest(StayTest):
    def test_errors(self):
        paper = judged_places(LONE, {"s": 2})
        for value in ANY:
            self.raises(BadHouse("plan"), shows_places, value, 5, paper)
        for value in no_bays(LONE):
            self.raises(BadStock("bays"), shows_places, LONE, value, paper)

    def test_other_values(self):
        for value in ANY + [Housed, Crowded, BEGIN, (BEGIN,), ["a"]]:
            self.assertIs(shows_places(LONE, {"s": 2}, value), False)
            self.assertIs(shows_places(LONE, {"s": 2}, Housed(value)), value == (BEGIN,) and False)
            self.assertIs(shows_places(LONE, {"s": 2}, Crowded(value)), False)
            self.assertIs(shows_places(LONE, {}, Crowded(value)), value == ("a",))

    def test_by_name(self):
        self.assertIs(shows_places(plan=LONE, bays=Counts(s=2), value=judged_places(LONE, {"s": 2})), True)

    def test_judged(self):
        for plan, bays, _ in plans_and_bays(11, 60):
            paper = judged_places(plan, bays)
            self.assertIs(shows_places(plan, bays, paper), True)
            if paper:
                self.assertIs(plain_housed(plan, bays, paper.knots), True)
                self.assertIs(shows_places(plan, bays, Housed(paper.knots[::-1])), True)
                self.assertIs(shows_places(plan, bays, Housed(list(paper.knots))), False)
                self.assertIs(shows_places(plan, bays, Housed(paper.knots + paper.knots[:1])), False)
                for at in range(len(paper.knots)):
                    # Each knot comes about: without it a step leads out.
                    self.assertIs(shows_places(plan, bays, Housed(paper.knots[:at] + paper.knots[at + 1:])), False)
            else:
                self.assertIs(plain_crowded(plan, bays, paper.row), True)
                self.assertIs(shows_places(plan, bays, Crowded(list(paper.row))), False)

    def test_changed(self):
        rng = random.Random(12)
        right = wrong = 0
        for plan, bays, _ in plans_and_bays(13, 60):
            paper = judged_places(plan, bays)
            if len(getattr(paper, "knots", ())) > 60:
                continue
            for _ in range(25):
                if paper:
                    knots = changed_once(rng, paper.knots)
                    told, expected = Housed(knots), plain_housed(plan, bays, knots)
                else:
                    row = changed_once(rng, paper.row)
                    told, expected = Crowded(row), plain_crowded(plan, bays, row)
                self.assertIs(shows_places(plan, bays, told), expected, told.kept())
                right += expected
                wrong += not expected
        self.assertGreater(right, 20)
        self.assertGreater(wrong, 300)

    def test_other_house(self):
        rng = random.Random(14)
        for plan, bays, _ in plans_and_bays(15, 40):
            paper = judged_places(plan, bays)
            other = {site: max(0, number + rng.choice([-1, 0, 1])) for site, number in bays.items()}
            look, kept = (plain_housed, "knots") if paper else (plain_crowded, "row")
            if len(getattr(paper, kept)) <= 60:
                self.assertIs(shows_places(plan, other, paper), look(plan, other, getattr(paper, kept)))

    def test_further_knots(self):
        # Two riders far do not come about without walkers or a near rider who goes; a walker and nobody else would.
        plan = PLAN.with_promise(Promise(Limit(1, rider=1, walker=1)))
        knots = judged_places(plan, BAYS).knots
        self.assertEqual(len(knots), 3)
        far = ((("rider", "far", 1),), ())
        self.assertIs(shows_places(plan, BAYS, Housed(knots + (far,))), True)
        for wrong in (((("rider", "far", 2),), ()), ((("walker", "near", 1),), ()), ((("guide", "far", 1),), ()), ((), (("rider", 1),)),
                      ((("rider", "far", 1), ("walker", "far", 1)), ()), far[:1], (far[0], ((),)), None, "far"):
            self.assertIs(shows_places(plan, BAYS, Housed(knots + (wrong,))), False)

    def test_years_of_knots(self):
        plan = LONE.with_promise(Promise(Limit(1, a=1), YearLimit(1, a=1)))
        knots = judged_places(plan, {"s": 1}).knots
        self.assertEqual(len(knots), 3)
        # Of a knot that does not come about the promise alone is asked: here it lets a coming that is not told.
        self.assertIs(shows_places(plan, {"s": 1}, Housed(knots + (((("a", "s", 1),), ()),))), True)
        self.assertIs(shows_places(plan, {"s": 1}, Housed(knots + (((), (("a", 2),)),))), False)
        self.assertIs(shows_places(plan, {"s": 1}, Housed(knots[:1] + knots[2:])), False)

    def test_years_ascend(self):
        plan = PLAN.with_promise(Promise(Limit(1, rider=1, walker=1), YearLimit(1, rider=1), YearLimit(1, walker=1)))
        knots = judged_places(plan, BAYS).knots
        right = ((), (("rider", 1), ("walker", 1)))
        self.assertIn(right, knots)
        self.assertIs(shows_places(plan, BAYS, Housed(knots)), True)
        for year in ((("walker", 1), ("rider", 1)), (("rider", 1), ("rider", 1)), (("rider", 1), ("rider", 0)), (("rider", 1, 1),)):
            self.assertIs(shows_places(plan, BAYS, Housed(knots + (((), year),))), False, year)

    def test_true_is_one_as_python_compares(self):
        plan = LONE.with_promise(Promise(Limit(1, a=1)))
        knots = (BEGIN, ((("a", "s", True),), ()))
        self.assertIs(shows_places(plan, {"s": 1}, Housed(knots)), True)
        # Knots that Python takes for equal are not unlike.
        self.assertIs(shows_places(plan, {"s": 1}, Housed(knots + (((("a", "s", 1),), ()),))), False)
        self.assertIs(shows_places(LONE, {"s": 1}, Crowded(("a", "a"))), True)
        self.assertIs(shows_places(LONE, {"s": 1}, Crowded(("a", False, "a", "a"))), False)
        self.assertIs(shows_places(LONE, {"s": 1}, Crowded(("a", 0, "a", "a"))), True)

    def test_rows_of_2000_events_and_2001(self):
        for limit, bays, goings, expected in ((2, 1, 999, True), (2, 1, 1000, False), (3, 2, 998, True), (3, 2, 999, False)):
            plan = LONE.with_promise(Promise(Limit(limit, a=1)))
            row = ("a",) * bays + tuple(event for number in range(goings) for event in (number, "a")) + ("a",)
            self.assertIs(shows_places(plan, {"s": bays}, Crowded(row)), expected, len(row))
        self.assertEqual(len(row), 2001)

    def test_20000_knots_and_more(self):
        plan = LONE.with_promise(Promise(Limit(19998, a=1)))
        told = judged_places(plan, {"s": 30000}).knots
        self.assertEqual(len(told), 19999)
        self.assertIs(shows_places(plan, {"s": 30000}, Housed(told)), True)
        yearly = LONE.with_promise(Promise(Limit(1, a=1), YearLimit(9999, a=1)))
        told = judged_places(yearly, {"s": 1}).knots
        here = (("a", "s", 1),)
        self.assertEqual(len(told), 19999)
        self.assertIs(shows_places(yearly, {"s": 1}, Housed(told + ((here, ()),))), True)
        knot = (here, (("a", 1),))
        self.assertIn(knot, told)
        self.assertIs(shows_places(yearly, {"s": 1}, Housed(told + ((here, ()),) + (knot,))), False)
        # 20,001 right ones are too many, too.
        double = LONE.with_promise(Promise(Limit(20000, a=1)))
        knots = (BEGIN,) + tuple(((("a", "s", number),), ()) for number in range(1, 20001))
        self.assertIs(shows_places(double, {"s": 20000}, Housed(knots)), False)
        self.assertIs(shows_places(LONE.with_promise(Promise(Limit(19999, a=1))), {"s": 20000}, Housed(knots[:-1])), True)

    def test_great_numbers(self):
        many = 10 ** 30
        plan = LONE.with_promise(Promise(Limit(many, a=1)))
        self.assertIs(shows_places(plan, {"s": many}, Housed((BEGIN, ((("a", "s", many),), ())))), False)

    def test_refusals_of_others(self):
        # The last event must be refused, and nobody else.
        for row, expected in ((("a", "a"), True), (("a",), False), (("a", "a", 0), False), (("a", 0), False), ((), False),
                              (("a", 0, "a", "a"), True), (("a", "a", 0, "a"), False), (("b", "a"), False), (("a", "a", "a"), False)):
            self.assertIs(shows_places(LONE, {"s": 1}, Crowded(row)), expected, row)
        three = LONE.with_promise(Promise(Limit(3, a=1)))
        self.assertIs(shows_places(three, {"s": 1}, Crowded(("a", "a", "a"))), False)
        self.assertIs(shows_places(three, {"s": 1}, Crowded(("a", "a", 1, "a"))), False)

    def test_plain_steps(self):
        self.assertEqual([step[:3] for step in plain_steps(PLAN, BAYS, BEGIN)], [("come", "rider", "near"), ("come", "walker", "far")])


if __name__ == "__main__":
    unittest.main()
