"""Judgements that are looked at."""

import random
import unittest

from stayhouse.cart_needs import CartNeed
from stayhouse.errors import BadHouse, BadStock
from stayhouse.judge import Safe, Unsafe, judge
from stayhouse.limits import Limit
from stayhouse.line_needs import LineNeed
from stayhouse.lines import Lines
from stayhouse.lockers import Fits
from stayhouse.look_judge import shows_judge
from stayhouse.places import Crowded, Housed
from stayhouse.promises import Promise

from helpers import ANY, StayTest
from plain import gate_adds, line_adds, plain_play
from plain_looks import changed_once, is_let, plain_fits, plain_housed, plain_need_paper
from test_beats import NO_STOCKS, PLAN, STOCK, houses
from test_judge import ENOUGH, LONE, safe_houses


def plain_unsafe(plan, stock, row, part):
    """Whether any values are right as the row and the part of an Unsafe."""
    if type(row) is not tuple or not 1 <= len(row) <= 500 or not is_let(plan, row) or not isinstance(row[-1], str):
        return False
    answers = plain_play(plan, stock, row)
    return isinstance(answers[-1], str) and answers[-1] == part and not any(isinstance(answer, str) for answer in answers[:-1])


def is_table(value, keys):
    """Whether any value is a dict with just these keys."""
    return type(value) is dict and len(value) == len(keys) and all(key in value for key in keys)


def plain_safe(plan, stock, paper):
    """Whether a Safe is right, part by part."""
    bays = {site.name: stock.bays[site.name] for site in plan.sites}
    pairs = [(i, j) for i in range(1, plan.lines + 1) for j in range(i, plan.lines + 1)]
    lines = Lines(stock.sums, stock.caps)
    if type(paper.places) is not Housed or not plain_housed(plan, bays, paper.places.knots):
        return False
    if not is_table(paper.lockers, plan.halls) or not is_table(paper.carts, plan.gates) or not is_table(paper.sums, pairs):
        return False
    for hall in plan.halls:
        told = paper.lockers[hall]
        if type(told) is not Fits or not plain_fits(plan, bays, hall, stock.rack(hall), told.knots):
            return False
    for gate in plan.gates:
        told = paper.carts[gate]
        if type(told) is not CartNeed or not plain_need_paper(plan, bays, gate_adds(plan, gate), told.number, told.heights, told.row):
            return False
        if told.number > stock.carts[gate]:
            return False
    for pair in pairs:
        told = paper.sums[pair]
        if type(told) is not LineNeed or not plain_need_paper(plan, bays, line_adds(plan, *pair), told.number, told.heights, told.row):
            return False
        if told.number > lines.reach(*pair):
            return False
    return True


def is_right(plan, stock, paper):
    """Whether a paper is right, plainly."""
    return plain_safe(plan, stock, paper) if isinstance(paper, Safe) else plain_unsafe(plan, stock, paper.row, paper.part)


def many_parts(paper):
    """How many knots a Safe has, of places and of halls together."""
    return len(paper.places.knots) + sum(len(told.knots) for told in paper.lockers.values())


INNER = {Housed: ("knots",), Fits: ("knots",), CartNeed: ("number", "heights", "row"), LineNeed: ("number", "heights", "row")}


def changed_paper(rng, paper):
    """A paper of a part in which something is otherwise."""
    if type(paper) not in INNER:
        return changed_once(rng, paper)
    if rng.random() < 0.1:
        return rng.choice([None, Crowded(("a",)), CartNeed(0, {}, ()), LineNeed(0, {}, ()), Fits(()), Housed(()), paper.kept()])
    values = [getattr(paper, name) for name in INNER[type(paper)]]
    at = rng.randrange(len(values))
    values[at] = changed_once(rng, values[at])
    return type(paper)(*values)


def changed_safe(rng, paper):
    """A Safe in which something is left out, put in, exchanged, or of another kind."""
    values = [paper.places, paper.lockers, paper.carts, paper.sums]
    at = rng.randrange(4)
    if at == 0:
        values[0] = changed_paper(rng, paper.places)
    elif rng.random() < 0.2:
        values[at] = changed_once(rng, values[at])
    else:
        table = dict(values[at])
        key = rng.choice(list(table))
        kind = rng.random()
        if kind < 0.7:
            table[key] = changed_paper(rng, table[key])
        elif kind < 0.8:
            del table[key]
        elif kind < 0.9:
            table[rng.choice(["front", "more", (1, 3), (2, 1), 1])] = table[key]
        else:
            other = rng.choice(list(table))
            table[key], table[other] = table[other], table[key]
        values[at] = table
    return Safe(*values)


class LookJudgeTest(StayTest):
    def test_errors(self):
        for value in ANY:
            self.raises(BadHouse("plan"), shows_judge, value, 5, Unsafe((), ""))
            self.raises(BadHouse("stock"), shows_judge, PLAN, value, Unsafe((), ""))
        for stock, part in NO_STOCKS:
            self.raises(BadStock(part), shows_judge, PLAN, stock, 5)

    def test_other_values(self):
        right = judge(LONE, ENOUGH)
        for value in ANY + [Safe, Unsafe, right, [right], (right.kept(),)]:
            self.assertIs(shows_judge(LONE, ENOUGH, value), value is right)
            self.assertIs(shows_judge(LONE, ENOUGH, Unsafe(value, "places")), False)
            self.assertIs(shows_judge(LONE, ENOUGH.with_bays({}), Unsafe(value, "places")), value == ("a",))
            self.assertIs(shows_judge(LONE, ENOUGH.with_bays({}), Unsafe(("a",), value)), False)
            for at in range(4):
                values = [right.places, right.lockers, right.carts, right.sums]
                values[at] = value
                self.assertIs(shows_judge(LONE, ENOUGH, Safe(*values)), False)
        self.assertIs(shows_judge(plan=LONE, stock=ENOUGH, value=right), True)

    def test_judged(self):
        safe = unsafe = 0
        for plan, stock, _ in houses(111, 60):
            found = judge(plan, stock)
            self.assertIs(shows_judge(plan, stock, found), True)
            unsafe += not found
        for plan, stock, _ in safe_houses(112, 30):
            found = judge(plan, stock)
            if many_parts(found) < 60:
                self.assertIs(plain_safe(plan, stock, found), True)
                safe += 1
            self.assertIs(shows_judge(plan, stock, found), True)
        self.assertGreater(safe, 10)
        self.assertGreater(unsafe, 20)

    def test_changed_unsafe(self):
        rng = random.Random(113)
        right = wrong = 0
        for plan, stock, _ in houses(114, 80):
            found = judge(plan, stock)
            if found:
                continue
            for _ in range(25):
                row, part = changed_once(rng, found.row), found.part
                if rng.random() < 0.2:
                    part = rng.choice(["places", "lockers", "carts", "purse", None, 0, "part"])
                expected = plain_unsafe(plan, stock, row, part)
                self.assertIs(shows_judge(plan, stock, Unsafe(row, part)), expected, (row, part))
                right += expected
                wrong += not expected
        self.assertGreater(right, 30)
        self.assertGreater(wrong, 500)

    def test_changed_safe(self):
        rng = random.Random(115)
        right = wrong = 0
        for plan, stock, _ in safe_houses(116, 30):
            found = judge(plan, stock)
            if many_parts(found) > 40:
                continue
            for _ in range(40):
                told = changed_safe(rng, found)
                expected = plain_safe(plan, stock, told)
                self.assertIs(shows_judge(plan, stock, told), expected)
                right += expected
                wrong += not expected
        self.assertGreater(right, 20)
        self.assertGreater(wrong, 300)

    def test_other_house(self):
        rng = random.Random(117)
        wrong = 0
        for plan, stock, _ in safe_houses(118, 30):
            found = judge(plan, stock)
            if many_parts(found) > 60:
                continue
            carts = {gate: max(0, stock.carts[gate] + rng.choice([-1, 0, 0, 1])) for gate in plan.gates}
            sums = [max(0, amount + rng.choice([-1, 0, 0, 1])) for amount in stock.sums]
            bays = {site.name: max(0, stock.bays[site.name] + rng.choice([-1, 0, 0, 0, 1])) for site in plan.sites}
            other = type(stock)(bays, dict(stock.racks), carts, sums, stock.caps)
            expected = plain_safe(plan, other, found)
            self.assertIs(shows_judge(plan, other, found), expected)
            wrong += not expected
        self.assertGreater(wrong, 5)

    def test_keys_as_python_compares_them(self):
        found = judge(LONE, ENOUGH)
        told = Safe(found.places, found.lockers, found.carts, {(True, 1): found.sums[(1, 1)]})
        self.assertIs(shows_judge(LONE, ENOUGH, told), True)
        for sums in ({(1, 2): found.sums[(1, 1)]}, {}, {(1, 1): found.sums[(1, 1)], (1, 2): found.sums[(1, 1)]}, {(1, 1): found.carts["g"]},
                     {(1, 1): None}, list(found.sums), {"1": found.sums[(1, 1)]}):
            self.assertIs(shows_judge(LONE, ENOUGH, Safe(found.places, found.lockers, found.carts, sums)), False)
        for carts in ({"g": found.carts["g"]}, {**found.carts, "x": found.carts["t"]}, {"g": found.carts["g"], "x": found.carts["t"]},
                      {"g": found.carts["t"], "t": found.carts["g"]}):
            self.assertIs(shows_judge(LONE, ENOUGH, Safe(found.places, found.lockers, carts, found.sums)), False)

    def test_rows_that_are_not_shortest(self):
        stock = STOCK.with_rack("east", [])
        for row, expected in ((("walker",), True), (("rider", "walker"), True), (("rider", 0, "walker"), True), (("walker", "walker"), False),
                              (("walker", 0, "walker"), False), (("rider",), False), (("rider", 0), False), ((), False), (["walker"], False)):
            self.assertIs(shows_judge(PLAN, stock, Unsafe(row, "lockers")), expected, row)
        self.assertIs(shows_judge(PLAN, stock, Unsafe(("walker",), "places")), False)

    def test_rows_of_500_events_and_501(self):
        plan = LONE.with_promise(Promise(Limit(2, a=1)))
        stock = ENOUGH.with_bays({"s": 1}).with_sum(1, 10 ** 6).with_carts("g", 10 ** 6)
        for goings, expected in ((249, True), (250, False)):
            row = ("a",) + tuple(event for number in range(goings) for event in (number, "a")) + ("a",)
            self.assertIs(shows_judge(plan, stock, Unsafe(row, "places")), expected, len(row))
        one_by_one = ("a",) + tuple(event for number in range(250) for event in (number, "a"))
        two = ("a", "a") + tuple(event for number in range(249) for event in (number, "a"))
        stock = stock.with_bays({"s": 2}).with_carts("g", 250)
        for row, many, expected in ((two, 500, True), (one_by_one, 501, False)):
            self.assertEqual((len(row), plain_play(plan, stock, row)[-1]), (many, "carts"))
            self.assertIs(shows_judge(plan, stock.with_rack("h", [2]), Unsafe(row, "carts")), expected)


if __name__ == "__main__":
    unittest.main()
