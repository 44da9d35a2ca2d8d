"""Live houses: comings, goings, what is barred and refused, undo, redo, trials, stocks that are set, histories."""

import random
import unittest
from collections import Counter

from helpers import ANY, StayTest, is_any_name
from plain import PlainHouse, keeps, purse_wants, some_plan, some_stock
from test_beats import NO_STOCKS, PLAN, STOCK, houses

from stayhouse.beats import Given
from stayhouse.counts import Counts
from stayhouse.errors import BadHouse, BadName, BadRow, BadRule, BadStock, Barred, NoGuest, NoHall, NoWish, Refused, StayError
from stayhouse.fittings import By
from stayhouse.house import House
from stayhouse.limits import Limit, YearLimit
from stayhouse.plans import Plan
from stayhouse.plays import first_refusal, played, whole_behind
from stayhouse.promises import Promise
from stayhouse.racks import Rack
from stayhouse.sites import Site
from stayhouse.stock import Stock
from stayhouse.wishes import Wish

NAMES = ["ann", "bob", "cid", "dan", "eve", "fay"]
LONE = Plan([Wish("a", [("s", 0)], price=1)], [Site("s", "h", "g")], Promise(Limit(2, a=1), YearLimit(4, a=1)))
MANY = Stock({"s": 9}, None, None, [9])


def shown(house):
    """All that a house shows, but for its stock and what can be done again."""
    return (list(house), len(house), [(name, house[name], house.wish_of(name)) for name in house], house.now, house.so_far, house.free_bays,
            house.carts_now, house.left, house.moved_on, house.whole, [house.free_in(hall) for hall in house.plan.halls], house.history)


def snapshot(house):
    """All that a house shows, and how much can be done again."""
    def redone(same):
        states = []
        while same.redo():
            states.append(shown(same))
        return states
    return shown(house), house.stock, house.tried(redone)


def some_deed(rng, house):
    """A deed of any kind, also a wrong one; what it returns or raises."""
    kind = rng.choice(["come", "come", "come", "go", "go", "item"])
    name = rng.choice(NAMES)
    wish = rng.choice(list(house.plan.names) + ["nobody"] * (rng.random() < 0.1))
    try:
        if kind == "come":
            return house.come(name, wish)
        if kind == "item":
            house[name] = wish
            return house[name]
        return house.go(name)
    except StayError as error:
        return error


class ErrorsTest(StayTest):
    def test_made(self):
        for value in ANY:
            self.raises(BadHouse("plan"), House, value, 5)
            self.raises(BadHouse("stock"), House, PLAN, value)
            self.raises(BadHouse("plan"), House.led, value, 5, 5)
            self.raises(BadHouse("stock"), House.led, PLAN, value, 5)
        for stock, part in NO_STOCKS:
            self.raises(BadStock(part), House, PLAN, stock)
            self.raises(BadStock(part), House.led, PLAN, stock, 5)
        self.assertEqual(House(plan=PLAN, stock=STOCK), House.led(plan=PLAN, stock=STOCK, history=()))

    def test_come(self):
        house = House(LONE, MANY)
        house.come("ann", "a")
        for value in ANY:
            if not is_any_name(value):
                self.raises(BadName(value), house.come, value, 5)
            if value != "a":
                self.raises(NoWish(value), house.come, "bob", value)
            self.raises(BadHouse("there"), house.come, "ann", value)
        self.assertEqual(house.history, (("come", "ann", "a"),))

    def test_guests(self):
        house = House(LONE, MANY)
        house.come("ann", "a")
        house.come("bob", "a")
        house.go("bob")
        for value in ANY + ["bob", "an", "annn", ("ann",), ["ann"]]:
            for work in (house.go, house.wish_of, lambda name: house[name]):
                self.raises(NoGuest(value), work, value)
            self.assertIs(value in house, False)
        self.assertIs("ann" in house, True)
        for value in ANY + ["near", "g"]:
            self.raises(NoHall(value), house.free_in, value)

    def test_barred(self):
        house = House(LONE, MANY)
        house.come("ann", "a")
        house.come("bob", "a")
        self.raises(Barred("promise"), house.come, "cid", "a")
        self.raises(Barred("promise"), house.__setitem__, "cid", "a")
        house.go("ann")
        house.come("ann", "a")
        house.go("ann")
        house.come("cid", "a")
        self.assertEqual((house.now, house.so_far), (Counts(a=2), Counts(a=4)))
        # Both are broken: the promise is told first.
        self.raises(Barred("promise"), house.come, "dan", "a")
        house.go("cid")
        self.raises(Barred("year"), house.come, "dan", "a")
        self.assertTrue(house.undo() and house.undo())
        self.assertEqual((house.now, house.so_far), (Counts(a=1), Counts(a=3)))
        house.come("dan", "a")

    def test_barred_ahead_of_refused(self):
        house = House(LONE, MANY.with_bays({"s": 1}))
        house.come("ann", "a")
        self.raises(Refused("places", "a"), house.come, "bob", "a")
        # Who was refused does not count: neither as there, nor as having come.
        self.assertEqual((house.now, house.so_far, "bob" in house), (Counts(a=1), Counts(a=1), False))
        tight = House(LONE.with_promise(Promise(Limit(1, a=1))), MANY.with_bays({"s": 1}))
        tight.come("ann", "a")
        self.raises(Barred("promise"), tight.come, "bob", "a")


class DeedsTest(StayTest):
    def test_against_a_plain_keeping_of_the_parts(self):
        seen = Counter()
        for plan, stock, rng in houses(101, 120):
            house, plain = House(plan, stock), PlainHouse(plan, stock)
            numbers, row, history = {}, [], []
            for _ in range(16):
                before = snapshot(house)
                name, wish = rng.choice(NAMES), rng.choice(plan.names)
                if name in numbers:
                    held = Given(*plain.go(numbers[name]))
                    self.assertEqual(house[name], held)
                    self.assertEqual(house.go(name), held)
                    row.append(numbers.pop(name))
                    history.append(("go", name))
                else:
                    there = Counter(plain.guests[number][0] for number in plain.there)
                    came = Counter(guest[0] for guest in plain.guests)
                    limits = plan.promise.limits
                    once = Promise(*[limit for limit in limits if not limit.YEARLY])
                    told = plain.asked(wish)
                    if not keeps(once, there + Counter([wish]), Counter()):
                        error = Barred("promise")
                    elif not keeps(plan.promise, Counter(), came + Counter([wish])):
                        error = Barred("year")
                    else:
                        error = Refused(told, wish) if isinstance(told, str) else None
                    if error is not None:
                        seen[(type(error).__name__, vars(error).get("part", vars(error).get("word")))] += 1
                        self.raises(error, house.come, name, wish)
                        self.assertEqual(snapshot(house), before)
                        continue
                    plain.come(wish)
                    self.assertEqual(house.come(name, wish), Given(*told))
                    numbers[name] = len(plain.guests) - 1
                    row.append(wish)
                    history.append(("come", name, wish))
                self.check(house, plain, numbers, history)
                # The beats and the rows that are played tell the same.
                self.assertEqual(house.whole, whole_behind(plan, stock, row))
                self.assertIs(first_refusal(plan, stock, row), None)
                self.assertEqual(len(played(plan, stock, row)), len(row))
            self.assertEqual(House.led(plan, stock, history), house)
        for kind in [("Barred", "promise"), ("Barred", "year")] + [("Refused", part) for part in ("places", "lockers", "carts", "purse")]:
            self.assertGreater(seen[kind], 10, kind)

    def check(self, house, plain, numbers, history):
        """The house shows what the plain one keeps."""
        plan = house.plan
        self.same(house.history, tuple(history))
        self.assertEqual((list(house), len(house)), (sorted(numbers), len(numbers)))
        for name, number in numbers.items():
            self.assertEqual((house[name], house.wish_of(name)), (Given(*plain.guests[number][1:]), plain.guests[number][0]))
        self.assertEqual(house.now, Counts.of(dict(Counter(plain.guests[number][0] for number in plain.there))))
        self.assertEqual(house.so_far, Counts.of(dict(Counter(guest[0] for guest in plain.guests))))
        self.assertEqual(house.free_bays, Counts.of(plain.free()))
        self.assertEqual(house.carts_now, Counts.of(plain.carts()))
        for hall in plan.halls:
            self.assertEqual(house.free_in(hall), Rack(*plain.lockers(hall)))
        spent = plain.spent()
        wants = purse_wants(house.stock.sums, spent)
        self.same(house.moved_on, wants[1:-1])
        self.same(house.left, tuple(house.stock.sums[k] + (wants[k] if k else 0) - spent[k] - wants[k + 1] for k in range(plan.lines)))
        self.same(house.whole, plain.whole())

    def test_a_house_without_guests(self):
        house = House(PLAN, STOCK)
        self.assertFalse(house)
        self.assertEqual(shown(house), ([], 0, [], Counts(), Counts(), Counts(near=1, far=2), Counts(front=2), (8,), (),
                                        ((), (("back", 0), ("front", 2)), (0,)), [Rack(1, 0, 1)], ()))
        self.assertEqual((house.plan, house.stock, house.undo(), house.redo()), (PLAN, STOCK, False, False))

    def test_names(self):
        house = House(LONE.with_promise(Promise(Limit(99, a=1))), Stock({"s": 99}, None, None, [99]))
        names = ["zoe", "ann", "mia", "b", "bb", "abcdefgh", "selfs"]
        for name in names:
            house[name] = "a"
        self.assertEqual(list(house), sorted(names))
        self.assertEqual([name for name in house if name in house], sorted(names))
        house.go("mia")
        self.assertEqual((list(house), len(house), bool(house)), (sorted(set(names) - {"mia"}), 6, True))
        self.assertEqual(house.come(name="mia", wish="a"), Given("s", 0, None, 1))
        self.assertEqual(house.go(name="mia"), Given("s", 0, None, 1))

    def test_same_guest_again(self):
        house = House(PLAN, STOCK)
        first = house.come("ann", "rider")
        house.go("ann")
        self.assertEqual((house.come("ann", "walker"), house.wish_of("ann")), (Given("far", 3, None, None), "walker"))
        self.assertEqual((first, house.so_far), (Given("near", 0, "front", 1), Counts(rider=1, walker=1)))

    def test_fitting_that_fails(self):
        def work(free, size):
            if len(calls) > 1:
                raise BadStock("strange")
            calls.append(size)
            return 3
        calls = []
        house = House(PLAN.with_fitting("east", By(work)), STOCK)
        house.come("ann", "walker")
        before = shown(house)
        self.raises(BadRule("locker"), house.come, "bob", "walker")
        self.raises(BadRule("work"), house.come, "bob", "walker")
        self.assertEqual(shown(house), before)
        wrong = House(PLAN.with_fitting("east", By(lambda free, size: 1 // 0)), STOCK)
        with self.assertRaises(ZeroDivisionError):
            wrong.come("ann", "walker")
        self.assertEqual((len(wrong), wrong.history, wrong.free_bays), (0, (), Counts(near=1, far=2)))


class UndoTest(StayTest):
    def test_undo_and_redo_go_through_all_states(self):
        for plan, stock, rng in houses(111, 60):
            house = House(plan, stock)
            states = [shown(house)]
            for _ in range(20):
                if not isinstance(some_deed(rng, house), StayError):
                    states.append(shown(house))
            for at in range(len(states) - 2, -1, -1):
                self.assertIs(house.undo(), True)
                self.assertEqual(shown(house), states[at])
            self.assertIs(house.undo(), False)
            for state in states[1:]:
                self.assertIs(house.redo(), True)
                self.assertEqual(shown(house), state)
            self.assertIs(house.redo(), False)
            self.assertEqual(shown(house), states[-1])

    def test_redo_behind_a_deed(self):
        house = House(LONE, MANY)
        house.come("ann", "a")
        house.come("bob", "a")
        house.undo()
        # What is barred or refused, or wrong, is no deed.
        for wrong in (lambda: house.come("ann", "a"), lambda: house.go("bob"), lambda: house.come("bob", "b"), lambda: house.come("B", "a"),
                      lambda: house["bob"], lambda: setattr(house, "stock", 5)):
            with self.assertRaises(StayError):
                wrong()
        self.assertIs(house.redo(), True)
        self.assertEqual(list(house), ["ann", "bob"])
        house.undo()
        house.undo()
        house.come("cid", "a")
        self.assertEqual((house.redo(), list(house), house.history), (False, ["cid"], (("come", "cid", "a"),)))
        # What redo does again ends nothing: a second one can follow.
        house.undo()
        self.assertEqual((house.redo(), house.redo()), (True, False))

    def test_undo_of_a_going(self):
        house = House(PLAN, STOCK)
        house.come("ann", "rider")
        house.come("bob", "walker")
        before = shown(house)
        house.go("ann")
        self.assertEqual((house.undo(), shown(house)), (True, before))
        house.go("bob")
        house.go("ann")
        self.assertEqual((house.undo(), house.undo(), shown(house)), (True, True, before))
        self.assertEqual((house.redo(), list(house)), (True, ["ann"]))


class TrialTest(StayTest):
    def test_behind_a_trial_all_is_as_it_was(self):
        for plan, stock, rng in houses(121, 60):
            house = House(plan, stock)
            for _ in range(6):
                some_deed(rng, house)
            for _ in range(rng.randint(0, 3)):
                house.undo()
            before = snapshot(house)
            with house.trial() as same:
                self.assertIs(same, house)
                for _ in range(6):
                    rng.choice([house.undo, house.redo, lambda: some_deed(rng, house)])()
                inner = snapshot(house)
                with house.trial():
                    for _ in range(4):
                        rng.choice([house.undo, lambda: some_deed(rng, house)])()
                    with self.assertRaises(KeyError):
                        with same.trial() as again:
                            some_deed(rng, again)
                            raise KeyError("left by an error")
                self.assertEqual(snapshot(house), inner)
            self.assertEqual(snapshot(house), before)

    def test_tried(self):
        house = House(LONE, MANY)
        house.come("ann", "a")
        house.undo()

        def work(same):
            self.assertIs(same, house)
            same.come("bob", "a")
            same.stock = MANY.with_sum(1, 5)
            return list(same), same.left, same.redo()
        self.assertEqual(house.tried(work), (["bob"], (4,), False))
        self.assertEqual((list(house), house.stock, house.left, house.redo()), ([], MANY, (9,), True))
        self.assertEqual(house.tried(work=lambda same: same), house)
        self.assertIs(house.tried(lambda same: None), None)

        def wrong(same):
            same.go("ann")
            same.come("bob", "nobody")
        self.raises(NoWish("nobody"), house.tried, wrong)
        self.assertEqual(house.history, (("come", "ann", "a"),))
        with self.assertRaises(ZeroDivisionError):
            house.tried(lambda same: same.undo() // 0)
        self.assertEqual(list(house), ["ann"])

    def test_blocks_that_are_left_early(self):
        house = House(LONE, MANY)

        def leave():
            with house.trial() as same:
                same.come("ann", "a")
                return list(same)
        self.assertEqual((leave(), list(house)), (["ann"], []))
        for name in ("bob", "cid"):
            with house.trial():
                house.come(name, "a")
                continue
        self.assertEqual(house.history, ())
        block = house.trial()
        house.come("dan", "a")
        with block:
            house.go("dan")
        # As it was when the block began, not when it was made.
        self.assertEqual(list(house), ["dan"])

    def test_names_kept_from_a_trial(self):
        house = House(LONE, MANY)
        house.come("ann", "a")
        with house.trial():
            house.come("bob", "a")
            names = list(house)
        self.assertEqual((names, list(house), len(house)), (["ann", "bob"], ["ann"], 1))


class StockTest(StayTest):
    def test_set(self):
        house = House(PLAN, STOCK)
        house.come("ann", "rider")
        house.come("bob", "walker")
        other = Stock({"near": 5, "far": 9}, {"east": {1: 7, 3: 4}}, {"front": 1, "back": 2}, [5])
        house.stock = other
        self.assertEqual((house.stock, house.free_bays, house.carts_now, house.left), (other, Counts(near=4, far=8), Counts(back=2), (0,)))
        self.assertEqual((house.free_in("east"), house.history), (Rack(7, 0, 3), (("come", "ann", "rider"), ("come", "bob", "walker"))))
        self.assertEqual(house, House.led(PLAN, other, house.history))
        self.assertIs(house.set_stock(STOCK), None)
        self.assertEqual(house, House.led(PLAN, STOCK, house.history))
        self.assertIs(house.set_stock(stock=other), None)
        # What is undone now is as it would have been with this stock.
        house.undo()
        self.assertEqual(shown(house), shown(House.led(PLAN, other, (("come", "ann", "rider"),))))

    def test_other_values(self):
        house = House(PLAN, STOCK)
        house.come("ann", "rider")
        house.come("bob", "walker")
        before = snapshot(house)
        wrong = [value for value in ANY] + [stock for stock, _ in NO_STOCKS] + [
            # Another bay, another locker, no cart, no money, no bay.
            STOCK.with_bays({"far": 3}), STOCK.with_rack("east", [0, 1]), STOCK.with_carts("front", 0), STOCK.with_sum(1, 4),
            STOCK.with_bays({"near": 1}), STOCK.with_rack("east", [1]),
        ]
        for value in wrong:
            self.raises(BadHouse("stock"), house.set_stock, value)
            self.raises(BadHouse("stock"), setattr, house, "stock", value)
            self.assertEqual(snapshot(house), before)

    def test_goings_of_the_history(self):
        rich = Stock({"near": 2, "far": 2}, {"east": [0, 2]}, {"front": 2, "back": 2}, [99])
        house = House(PLAN, rich)
        for name, wish in (("ann", "rider"), ("bob", "rider")):
            house.come(name, wish)
        house.go("ann")
        house.come("cid", "rider")
        house.come("dan", "walker")
        house.go("dan")
        house.come("eve", "walker")
        # With one near bay bob would get the far one; with one cart bob none; with one locker eve still gets hers.
        for other in (rich.with_bays({"near": 1, "far": 2}), rich.with_carts("front", 1), rich.with_sum(1, 14)):
            self.raises(BadHouse("stock"), house.set_stock, other)
        for other in (rich.with_rack("east", [0, 1]), rich.with_bays({"near": 2, "far": 1}), rich.with_carts("back", 0), rich.with_sum(1, 15)):
            house.set_stock(other)
            self.assertEqual(house, House.led(PLAN, other, house.history))
        # A guest who came and went leaves just one bay, for just one further guest.
        lone = House(PLAN, rich)
        lone.come("ann", "rider")
        lone.go("ann")
        lone.come("bob", "rider")
        lone.come("cid", "rider")
        self.raises(BadHouse("stock"), lone.set_stock, rich.with_bays({"near": 1, "far": 2}))
        self.raises(BadHouse("stock"), lone.set_stock, rich.with_carts("front", 1))

    def test_same_history_from_the_begin_on(self):
        for plan, stock, rng in houses(131, 120):
            house = House(plan, stock)
            for _ in range(8):
                some_deed(rng, house)
            house.undo()
            other = rng.choice([some_stock(rng, plan), stock + some_stock(rng, plan)])
            before = snapshot(house)
            try:
                led = House.led(plan, other, house.history)
                same = all(answers_of(plan, stock, house.history)[at] == answer
                           for at, answer in enumerate(answers_of(plan, other, house.history)))
            except BadRow:
                same = False
            if same:
                house.stock = other
                self.assertEqual((house, shown(house)), (led, shown(led)))
                self.assertIs(house.redo(), False)
                states = []
                while house.undo():
                    states.append(shown(house))
                for at, state in enumerate(states):
                    self.assertEqual(state, shown(House.led(plan, other, led.history[:len(led.history) - 1 - at])))
            else:
                self.raises(BadHouse("stock"), house.set_stock, other)
                self.assertEqual(snapshot(house), before)

    def test_behind_it_nothing_can_be_done_again(self):
        house = House(LONE, MANY)
        house.come("ann", "a")
        house.undo()
        house.stock = MANY
        self.assertIs(house.redo(), False)
        with house.trial():
            house.come("ann", "a")
            house.undo()
            house.set_stock(MANY.with_bays({"s": 1}))
            self.assertIs(house.redo(), False)
        self.assertEqual((house.stock, house.redo()), (MANY, False))

    def test_fitting_that_fails(self):
        house = House(PLAN.with_fitting("east", By(lambda free, size: 3)), STOCK)
        house.come("bob", "walker")
        self.raises(BadHouse("stock"), house.set_stock, STOCK.with_rack("east", [9]))
        house.set_stock(STOCK.with_rack("east", [0, 0, 2]))
        self.assertEqual(house.free_in("east"), Rack(0, 0, 1))


def answers_of(plan, stock, history):
    """What each coming of a history gets."""
    house = House(plan, stock)
    return [house.come(*deed[1:]) if deed[0] == "come" else house.go(*deed[1:]) for deed in history]


class LedTest(StayTest):
    def test_led(self):
        house = House.led(LONE, MANY, [("come", "ann", "a"), ("come", "bob", "a"), ("go", "ann")])
        self.assertEqual((list(house), house.history), (["bob"], (("come", "ann", "a"), ("come", "bob", "a"), ("go", "ann"))))
        self.assertEqual((house.redo(), house.undo(), list(house)), (False, True, ["ann", "bob"]))
        deeds = [("come", "ann", "a")]
        house = House.led(LONE, MANY, deeds)
        deeds.append(("go", "ann"))
        self.assertEqual(house.history, (("come", "ann", "a"),))

    def test_wrong_histories(self):
        for value in ANY:
            if not isinstance(value, (list, tuple)):
                self.raises(BadRow("history"), House.led, LONE, MANY, value)
            elif value:
                self.raises(BadRow(0), House.led, LONE, MANY, value)
            if not isinstance(value, tuple) or len(value) != 3 or value[0] != "come":
                self.raises(BadRow(1), House.led, LONE, MANY, [("come", "ann", "a"), value])

    def test_wrong_deeds(self):
        here = ("come", "ann", "a")
        forms = [["come", "bob", "a"], ("come", "bob"), ("come",), ("go",), ("go", "ann", "a"), ("come", "bob", "a", 1), ("go", "ann", 1, 2), ("stay", "bob", "a"),
                 ("come go", "bob"), ("GO", "ann"), (None, "ann"), (1, "bob", "a"), ((), "ann"), "go", ["go", "ann"]]
        for deed in forms:
            with self.assertRaises(BadRow) as caught:
                House.led(LONE, MANY, [here, deed])
            self.assertEqual((caught.exception.at, caught.exception.__cause__), (1, None))
        raising = [(("come", "Bob", "a"), BadName("Bob")), (("come", ["bob"], "a"), BadName(["bob"])), (("come", "ann", "a"), BadHouse("there")),
                   (("come", "bob", "b"), NoWish("b")), (("come", "bob", {}), NoWish({})), (("go", "bob"), NoGuest("bob")), (("go", None), NoGuest(None))]
        for deed, why in raising:
            with self.assertRaises(BadRow) as caught:
                House.led(LONE, MANY, (here, deed))
            cause = caught.exception.__cause__
            self.assertEqual((caught.exception.at, type(cause), vars(cause)), (1, type(why), vars(why)))
        more = [here, ("come", "bob", "a")]
        for stock, deeds, why in ((MANY, more + [("come", "cid", "a")], Barred("promise")), (MANY.with_bays({"s": 1}), more, Refused("places", "a")),
                                  (MANY, more + [("go", "ann"), here, ("go", "ann"), here, ("go", "ann"), ("go", "bob"), here], Barred("year"))):
            with self.assertRaises(BadRow) as caught:
                House.led(LONE, stock, deeds)
            cause = caught.exception.__cause__
            self.assertEqual((caught.exception.at, type(cause), vars(cause)), (len(deeds) - 1, type(why), vars(why)))

    def test_equal(self):
        rng = random.Random(141)
        house = House(PLAN, STOCK)
        house.come("ann", "rider")
        for other in (House(PLAN, STOCK), House.led(PLAN, STOCK.with_carts("back", 1), house.history), House.led(PLAN, STOCK, [("come", "bob", "rider")]),
                      House.led(PLAN.with_fitting("east", By(len)), STOCK, house.history), House.led(PLAN, STOCK, [("come", "ann", "rider"), ("go", "ann")])):
            self.assertFalse(house == other)
            self.assertTrue(house != other)
        same = House(PLAN, STOCK)
        same.come("zoe", "walker")
        same.undo()
        same.come("ann", "rider")
        self.assertTrue(house == same)
        for value in ANY + [PLAN, STOCK, house.history, house.whole]:
            self.assertFalse(house == value)
        for _ in range(20):
            plan = some_plan(rng)
            stock = some_stock(rng, plan)
            one = House(plan, stock)
            for _ in range(8):
                some_deed(rng, one)
            two = House.led(plan, stock, one.history)
            self.assertEqual((one, shown(one)), (two, shown(two)))

    def test_many_guests(self):
        plan = LONE.with_promise(Promise(Limit(10 ** 9, a=1)))
        names = [one + two + three + four for one in "abcdefghij" for two in "abcdefgh" for three in "abcdefgh" for four in "abcde"]
        history = [("come", name, "a") for name in names] + [("go", name) for name in names]
        house = House.led(plan, Stock({"s": 10 ** 9}, None, None, [10 ** 9]), history)
        self.assertEqual((len(names), len(house), len(house.history)), (3200, 0, 6400))
        for _ in range(3200):
            house.undo()
        self.assertEqual((len(house), list(house), house.now), (3200, sorted(names), Counts(a=3200)))


if __name__ == "__main__":
    unittest.main()
