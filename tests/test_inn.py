"""Inns: guests who are sold nights, come and go, dawns, what is barred, refused, taken back and tried, twins."""

import random
import unittest

from stayhouse.beats import Given
from stayhouse.books import Book
from stayhouse.calendars import Calendar, Sale
from stayhouse.door import Door
from stayhouse.errors import (BadBook, BadCalendar, BadHouse, BadName, BadRow, BadStay, BadStock, Barred, NoGuest, Nothing, NoWish, Refused, StayError,
                              TooMany)
from stayhouse.house import House
from stayhouse.inn import Inn
from stayhouse.judge import is_safe
from stayhouse.limits import Limit, YearLimit
from stayhouse.plans import Plan
from stayhouse.promises import Promise
from stayhouse.rows import Row
from stayhouse.sites import Site
from stayhouse.stays import Stay
from stayhouse.stock import Stock
from stayhouse.wishes import Wish

from helpers import ANY, GREATEST, StayTest, is_any_integer, is_any_name
from plain import some_plan, some_stock
from plain_nights import NAMES, barred_by, let_within, some_book
from test_beats import NO_STOCKS
from test_beats import PLAN as OTHER_PLAN
from test_judge import safe_houses

RIDE, WALK = Wish("rider", [("near", 0), ("far", 0)], cart=True, price=5), Wish("walker", [("far", 0)], size=2)
TOWN = Plan([RIDE, WALK], [Site("near", "east", "front", 1), Site("far", "east", "back", 1)], Promise(Limit(3, rider=1, walker=1), YearLimit(9, rider=1)))
STOCK = Stock({"near": 1, "far": 2}, {"east": {1: 1, 3: 1}}, {"front": 2}, [8])
RICH = Stock({"near": 9, "far": 9}, {"east": [0, 9]}, {"front": 9, "back": 9}, [99])
BOOK = Book([1, 2, 3])
FAR = 10 ** 39


def an_inn(stock=RICH, rooms=3, first=0, after=5, book=BOOK):
    """An inn of the town."""
    return Inn(TOWN, stock, book, rooms, first, after)


def shown(inn):
    """All that an inn shows."""
    house = inn.house_now()
    return (list(inn), len(inn), [inn[guest] for guest in inn], inn.today, inn.present, inn.due, inn.deeds, inn.row_now(), inn.calendar_now(),
            house.history, house.whole, [(name, house[name]) for name in house])


def undone(inn):
    """All that is shown while everything is taken back."""
    def work(same):
        states = []
        while same.deeds:
            states.append((same.undo(), shown(same)))
        return states
    return inn.tried(work)


def carried_out(inn, deed):
    """What a deed returns, or the error that it raises."""
    kind, *told = deed
    try:
        if kind == "item":
            inn[told[0]] = tuple(told[1:])
            return None
        return getattr(inn, kind)(*told)
    except StayError as error:
        return error


class PlainInn:
    """A list of sales, a day, who came, and the deeds of a house that is led anew for each deed."""

    def __init__(self, plan, stock, book, rooms, first, after):
        self.plan, self.stock, self.book = plan, stock, book
        self.days = (rooms, first, after)
        self.sales, self.today, self.came, self.history = [], first, [], []
        self.past = []

    def keep(self, word):
        self.past.append((word, list(self.sales), self.today, list(self.came), list(self.history)))

    def calendar(self):
        return Calendar(*self.days, *self.sales)

    def house(self):
        return House.led(self.plan, self.stock, self.history)

    def sale(self, guest):
        for sale in self.sales:
            if sale.guest == guest:
                return sale
        raise NoGuest(guest)

    def sell(self, guest, wish, stay):
        if wish not in self.plan.names:
            raise NoWish(wish)
        if guest in [sale.guest for sale in self.sales]:
            raise Barred("name")
        if stay.first < self.today:
            raise Barred("past")
        told = barred_by(self.book, self.plan.promise, self.calendar(), wish, stay)
        if told is not None:
            raise Barred(told[0])
        self.keep("sell")
        self.sales.append(Sale(guest, wish, stay))

    def __setitem__(self, guest, told):
        self.sell(guest, *told)

    def cancel(self, guest):
        sale = self.sale(guest)
        if sale.stay.first < self.today:
            raise Barred("past")
        if guest in self.came:
            raise Barred("there")
        self.keep("cancel")
        self.sales.remove(sale)
        return sale

    def come(self, guest):
        sale = self.sale(guest)
        if sale.stay.first != self.today:
            raise Barred("day")
        if guest in self.came:
            raise Barred("there")
        given = self.house().come(guest, sale.wish)
        self.keep("come")
        self.came.append(guest)
        self.history.append(("come", guest, sale.wish))
        return given

    def go(self, guest):
        given = self.house().go(guest)
        self.keep("go")
        self.history.append(("go", guest))
        return given

    def dawn(self):
        if self.today + 1 == self.days[2]:
            raise Barred("end")
        self.keep("dawn")
        self.today += 1
        house = self.house()
        going = [guest for guest in self.came if guest in house and self.sale(guest).stay.after == self.today]
        self.history += [("go", guest) for guest in going]
        return tuple(going)

    def undo(self):
        if not self.past:
            raise Nothing()
        word, self.sales, self.today, self.came, self.history = self.past.pop()
        return word

    def row(self):
        events, numbers = [], {}
        for deed in self.history:
            if deed[0] == "come":
                numbers[deed[1]] = len(numbers)
            events.append(deed[2] if deed[0] == "come" else numbers[deed[1]])
        return Row(*events)

    def shown(self):
        house = self.house()
        due = tuple(sale.guest for sale in self.sales if sale.stay.first == self.today and sale.guest not in self.came)
        return ([sale.guest for sale in self.sales], len(self.sales), self.sales, self.today, tuple(house), due, len(self.past), self.row(),
                self.calendar(), house.history, house.whole, [(name, house[name]) for name in house])


def some_deed(rng, inn):
    """A deed, mostly one that can be carried out."""
    kind = rng.choice(["sell"] * 6 + ["item"] * 2 + ["cancel", "come", "come", "come", "come", "go", "dawn", "dawn", "undo"])
    guest = rng.choice(NAMES[:9])
    if kind in ("sell", "item"):
        wish = rng.choice(inn.house_now().plan.names + ("nobody",) * (rng.random() < 0.1))
        offers = [stay for stay in inn.door_now().offers(wish) if stay.first >= inn.today]
        calendar = inn.calendar_now()
        stays = offers if offers and rng.random() < 0.8 else let_within(calendar, inn.door_now().book) + [Stay(calendar.first, calendar.first + 1)]
        return kind, guest, wish, rng.choice(stays)
    if kind == "come" and inn.due and rng.random() < 0.8:
        guest = rng.choice(inn.due)
    if kind == "go" and inn.present and rng.random() < 0.7:
        guest = rng.choice(inn.present)
    return (kind,) if kind in ("dawn", "undo") else (kind, guest)


def some_inns(seed, many, safe=False):
    """Small inns, each with a plain one beside it, always the same ones for a seed."""
    rng = random.Random(seed)
    houses = safe_houses(seed, 10 ** 6)
    while many:
        if safe:
            plan, stock, _ = next(houses)
        else:
            plan = some_plan(rng)
            stock = some_stock(rng, plan)
        first = rng.choice([0, 0, -3, FAR])
        told = (plan, stock, some_book(rng), rng.randint(1, 4), first, first + rng.randint(2, 6))
        try:
            yield Inn(*told), PlainInn(*told), rng
            many -= 1
        except Barred:
            pass


class ErrorsTest(StayTest):
    def test_made(self):
        for value in ANY:
            self.raises(BadHouse("plan"), Inn, value, 5, 5, 5, None, None)
            self.raises(BadHouse("stock"), Inn, TOWN, value, 5, 5, None, None)
            if not isinstance(value, Book):
                self.raises(BadBook("book"), Inn, TOWN, STOCK, value, 5, None, None)
            if not is_any_integer(value, 0, GREATEST):
                self.raises(BadCalendar("rooms"), Inn, TOWN, STOCK, BOOK, value, None, None)
            if type(value) is not int:
                self.raises(BadCalendar("first"), Inn, TOWN, STOCK, BOOK, 1, value, None)
                self.raises(BadCalendar("after"), Inn, TOWN, STOCK, BOOK, 1, 0, value)
        for stock, part in NO_STOCKS:
            self.raises(BadStock(part), Inn, OTHER_PLAN, stock, 5, 5, 5, 5)
        self.raises(TooMany("days", 400), Inn, TOWN, STOCK, BOOK, 1, 0, 401)
        self.raises(Barred("dead"), Inn, TOWN, STOCK, Book([2]), 1, 0, 3)
        inn = Inn(plan=TOWN, stock=STOCK, book=BOOK, rooms=1, first=-200, after=200)
        self.assertEqual((inn.today, inn.present, inn.due, inn.deeds, len(inn), inn.row_now()), (-200, (), (), 0, 0, Row()))
        self.assertEqual(Inn(TOWN, STOCK, Book.none(), 0, 0, 1).today, 0)

    def test_sell(self):
        inn = an_inn()
        inn.sell(guest="ann", wish="rider", stay=Stay(1, 2))
        inn.dawn()
        inn.dawn()
        before = shown(inn)
        for value in ANY + ["riders"]:
            if not is_any_name(value):
                self.raises(BadName(value), inn.sell, value, None, None)
                self.raises(BadName(value), inn.__setitem__, value, 5)
            self.raises(NoWish(value), inn.sell, "ann", value, None)
            if not (isinstance(value, tuple) and len(value) == 2):
                self.raises(BadRow(None), inn.__setitem__, "ann", value)
            self.raises(NoWish(value), inn.__setitem__, "ann", (value, None))
            if not isinstance(value, Stay):
                self.raises(BadStay("stay"), inn.sell, "ann", "rider", value)
                self.raises(BadStay("stay"), inn.__setitem__, "ann", ("rider", value))
        self.raises(Barred("name"), inn.sell, "ann", "rider", Stay(-9, 1))
        self.raises(Barred("past"), inn.sell, "bob", "rider", Stay(-9, 1))
        self.raises(Barred("past"), inn.sell, "bob", "rider", Stay(1, 9))
        self.raises(Barred("outside"), inn.sell, "bob", "rider", Stay(2, 9))
        self.assertEqual(shown(inn), before)
        inn["bob"] = ("rider", Stay(2, 3))
        self.assertEqual(inn["bob"], Sale("bob", "rider", Stay(2, 3)))

    def test_guests(self):
        inn = an_inn()
        inn["ann"], inn["bob"] = ("rider", Stay(0, 2)), ("walker", Stay(1, 2))
        inn.come("ann")
        before = shown(inn)
        for value in ANY + ["an", ["ann"], ("ann",)]:
            for work in (inn.cancel, inn.come, inn.go, lambda guest: inn[guest]):
                self.raises(NoGuest(value), work, value)
            self.assertIs(value in inn, False)
        self.raises(NoGuest("bob"), inn.go, "bob")
        self.raises(Barred("day"), inn.come, "bob")
        self.raises(Barred("there"), inn.come, "ann")
        self.raises(Barred("there"), inn.cancel, "ann")
        self.assertEqual(shown(inn), before)
        self.assertEqual(inn.go(guest="ann"), Given("near", 0, "front", 1))
        # He has come, though he has gone again.
        self.raises(Barred("there"), inn.come, "ann")
        self.raises(Barred("there"), inn.cancel, "ann")
        self.raises(NoGuest("ann"), inn.go, "ann")
        inn.dawn()
        self.raises(Barred("past"), inn.cancel, "ann")
        self.raises(Barred("day"), inn.come, "ann")
        self.raises(Barred("name"), inn.sell, "ann", "rider", Stay(3, 4))
        self.assertEqual(inn.cancel(guest="bob"), Sale("bob", "walker", Stay(1, 2)))
        inn["bob"] = ("walker", Stay(1, 2))
        self.assertEqual(inn.come(guest="bob"), Given("far", 2, None, None))

    def test_end(self):
        inn = an_inn(after=2)
        inn["ann"] = ("rider", Stay(1, 2))
        self.assertEqual(inn.dawn(), ())
        inn.come("ann")
        before = shown(inn)
        self.raises(Barred("end"), inn.dawn)
        self.assertEqual(shown(inn), before)
        self.assertEqual((inn.today, inn.present), (1, ("ann",)))
        self.raises(Barred("end"), an_inn(after=1).dawn)

    def test_200_sales_and_more(self):
        plan = TOWN.with_promise(Promise(Limit(10 ** 6, rider=1, walker=1)))
        inn = Inn(plan, RICH, BOOK, 300, 0, 9)
        for name in NAMES[:200]:
            inn.sell(name, "rider", Stay(3, 4))
        before = shown(inn)
        inn.dawn()
        self.raises(Barred("past"), inn.sell, "zz", "rider", Stay(0, 1))
        self.raises(TooMany("sales", 200), inn.sell, "zz", "rider", Stay(9, 10))
        self.assertEqual(inn.undo(), "dawn")
        self.assertEqual(shown(inn), before)


class InnsTest(StayTest):
    def test_against_a_plain_inn(self):
        done = {}
        for inn, plain, rng in some_inns(161, 80):
            self.assertEqual(shown(inn), plain.shown())
            for _ in range(30):
                deed = some_deed(rng, inn)
                outcome, expected = carried_out(inn, deed), carried_out(plain, deed)
                if isinstance(expected, StayError):
                    self.assertIs(type(outcome), type(expected), (deed, outcome, expected))
                    self.assertEqual(vars(outcome), vars(expected))
                else:
                    self.assertEqual(outcome, expected)
                    self.assertIs(type(outcome), type(expected))
                key = getattr(outcome, "word", type(outcome).__name__) if isinstance(outcome, StayError) else deed[0]
                done[key] = done.get(key, 0) + 1
                self.assertEqual(shown(inn), plain.shown())
                self.assertIs(inn.row_now().is_let(plain.plan.promise), True)
        self.assertGreaterEqual(set(done), {"sell", "item", "cancel", "come", "go", "dawn", "undo", "NoGuest", "NoWish", "Nothing", "Refused", "name", "past",
                                            "day", "there", "end", "dead", "full", "promise", "year"})

    def test_safe_inns_refuse_nobody(self):
        came = 0
        for inn, plain, rng in some_inns(162, 120, True):
            self.assertIs(is_safe(plain.plan, plain.stock), True)
            for _ in range(40):
                deed = some_deed(rng, inn)
                outcome = carried_out(inn, deed)
                self.assertNotIsInstance(outcome, Refused)
                came += deed[0] == "come" and isinstance(outcome, Given)
        self.assertGreater(came, 100)

    def test_rows_of_whole_calendars(self):
        # Where all come who were sold, and nobody goes early, the row that came about is that of the calendar.
        some = 0
        for inn, plain, rng in some_inns(163, 40, True):
            for guest in NAMES[:6]:
                wish = rng.choice(plain.plan.names)
                offers = list(inn.door_now().offers(wish))
                if offers:
                    inn.sell(guest, wish, rng.choice(offers))
            while True:
                for guest in inn.due:
                    inn.come(guest)
                if inn.today == inn.calendar_now().after - 1:
                    break
                inn.dawn()
            whole = inn.calendar_now().as_row()
            self.assertEqual(inn.row_now(), whole.front(len(inn.row_now())))
            self.assertEqual(inn.row_now().comings, whole.comings)
            some += len(whole) > 0
        self.assertGreater(some, 10)

    def test_trials(self):
        for inn, _, rng in some_inns(164, 40):
            for _ in range(8):
                carried_out(inn, some_deed(rng, inn))
            before, past = shown(inn), undone(inn)

            def work(same, deep):
                self.assertIs(same, inn)
                for _ in range(6):
                    carried_out(same, some_deed(rng, same))
                if deep:
                    inner, inner_past = shown(same), undone(same)
                    with same.trial() as again:
                        self.assertIs(again, inn)
                        work(again, deep - 1)
                    self.assertEqual((shown(same), undone(same)), (inner, inner_past))
                return same.today
            self.assertIsInstance(inn.tried(lambda same: work(same, 2)), int)
            self.assertEqual((shown(inn), undone(inn)), (before, past))
            for error in (ZeroDivisionError, Nothing):
                with self.assertRaises(error):
                    with inn.trial() as same:
                        work(same, 1)
                        raise error()
                self.assertEqual((shown(inn), undone(inn)), (before, past))

    def test_twins(self):
        for inn, plain, rng in some_inns(165, 40):
            for _ in range(10):
                carried_out(inn, some_deed(rng, inn))
            before, twin = shown(inn), inn.twin()
            self.assertEqual((twin, twin.deeds), (inn, 0))
            self.raises(Nothing(), twin.undo)
            door, house = inn.door_now(), inn.house_now()
            self.assertEqual(door, Door.of(door.book, plain.plan.promise, inn.calendar_now()))
            self.assertEqual((door.deeds, house.redo()), (0, False))
            self.assertEqual(house, House.led(plain.plan, plain.stock, house.history))
            for _ in range(10):
                carried_out(twin, some_deed(rng, twin))
            for guest in list(house):
                house.go(guest)
            while house.undo():
                pass
            for guest in list(door):
                door.cancel(guest)
            self.assertEqual(shown(inn), before)
            again = inn.twin()
            for _ in range(4):
                deed = some_deed(rng, inn)
                if deed[0] != "undo":
                    carried_out(inn, deed)
                    carried_out(again, deed)
            self.assertEqual(inn, again)

    def test_equality(self):
        inn = an_inn()
        self.assertEqual(inn, an_inn())
        for other in (an_inn(STOCK), an_inn(rooms=2), an_inn(first=-1), an_inn(after=6), an_inn(book=Book([1, 2])), inn.house_now(), inn.door_now()):
            self.assertIs(inn == other, False)
        plan = TOWN.with_promise(Promise(Limit(4, rider=1, walker=1), YearLimit(9, rider=1)))
        self.assertNotEqual(inn, Inn(plan, RICH, BOOK, 3, 0, 5))
        for value in ANY:
            self.assertIs(inn == value, False)
        one, other = an_inn(), an_inn()
        one["ann"] = ("rider", Stay(0, 1))
        self.assertNotEqual(one, other)
        other["ann"] = ("rider", Stay(0, 1))
        self.assertEqual(one, other)
        one.come("ann")
        self.assertNotEqual(one, other)
        other.come("ann")
        one.dawn()
        self.assertNotEqual(one, other)
        other.go("ann")
        other.dawn()
        self.assertEqual(one, other)

    def test_dawn(self):
        inn = an_inn(rooms=4)
        for guest, stay in (("dan", Stay(0, 2)), ("cid", Stay(0, 1)), ("bob", Stay(0, 2)), ("ann", Stay(1, 2))):
            inn.sell(guest, "walker", stay) if guest != "ann" else inn.sell(guest, "rider", stay)
        self.assertEqual(inn.due, ("dan", "cid", "bob"))
        for guest in ("bob", "cid", "dan"):
            inn.come(guest)
        self.assertEqual((inn.due, inn.present), ((), ("bob", "cid", "dan")))
        self.assertEqual((inn.dawn(), inn.today, inn.due), (("cid",), 1, ("ann",)))
        inn.come("ann")
        # In the order in which they came.
        self.assertEqual((inn.dawn(), inn.today, inn.present), (("bob", "dan", "ann"), 2, ()))
        self.assertEqual(str(inn.row_now()), "walker walker walker 1 rider 0 2 3")
        self.assertEqual([inn.undo(), inn.today, inn.present], ["dawn", 1, ("ann", "bob", "dan")])
        self.assertEqual([inn.undo(), inn.undo(), inn.today, inn.present], ["come", "dawn", 0, ("bob", "cid", "dan")])
        self.assertEqual(inn.deeds, 7)

    def test_who_does_not_come(self):
        inn = an_inn(rooms=1)
        inn["ann"] = ("rider", Stay(0, 2))
        inn.dawn()
        # His sale stands, and his nights stay sold.
        self.assertEqual((list(inn), inn.due, inn.present), (["ann"], (), ()))
        self.raises(Barred("full"), inn.sell, "bob", "rider", Stay(1, 2))
        inn["bob"] = ("rider", Stay(2, 3))
        self.assertEqual(inn.row_now(), Row())

    def test_refused(self):
        inn = an_inn(STOCK.with_sum(1, 5))
        inn["ann"], inn["bob"] = ("rider", Stay(0, 1)), ("rider", Stay(0, 1))
        inn.come("ann")
        inn.go("ann")
        before = shown(inn)
        self.raises(Refused("purse", "rider"), inn.come, "bob")
        self.assertEqual(shown(inn), before)
        self.assertEqual((inn.due, inn.deeds), (("bob",), 4))
        # Who was refused has not come: his sale can be taken out.
        self.assertEqual(inn.cancel("bob").guest, "bob")

    def test_sales_keep_their_places(self):
        inn = an_inn()
        for guest in ("ann", "bob", "cid"):
            inn[guest] = ("walker", Stay(0, 1))
        inn.cancel("ann")
        self.assertEqual(list(inn), ["bob", "cid"])
        self.assertEqual((inn.undo(), list(inn), "ann" in inn, len(inn), inn.due), ("cancel", ["ann", "bob", "cid"], True, 3, ("ann", "bob", "cid")))


if __name__ == "__main__":
    unittest.main()
