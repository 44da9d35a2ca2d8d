"""Doors: what they sell and bar, offers, cancelled sales, what is taken back and tried; and looks at what is open or closed."""

import random
import unittest

from stayhouse.books import Book
from stayhouse.calendars import Calendar, Sale
from stayhouse.counts import Counts
from stayhouse.door import Closed, Door, Open
from stayhouse.errors import BadBook, BadCalendar, BadHouse, BadName, BadPromise, BadRow, BadStay, Barred, NoGuest, Nothing, StayError, TooMany
from stayhouse.fills import Bar, Fill, fill_of
from stayhouse.limits import Limit, YearLimit
from stayhouse.look_nights import shows_closed, shows_open
from stayhouse.papers import Denial, Paper
from stayhouse.promises import Promise
from stayhouse.stays import Stay

from helpers import ANY, GREATEST, StayTest, is_any_integer, is_any_name
from plain_nights import (NAMES, barred_by, broken_night, can_fill, free_rooms, full_night, is_fill, is_kept, is_told_bar, let_within, some_book,
                          some_calendar, some_promise)

FAR = 10 ** 39
BOOK = Book([3, 2])
PROMISE = Promise(Limit(2, adult=1, child=1), YearLimit(2, adult=1))
ALL = Book(list(range(1, 31)))
MANY = Promise(Limit(10 ** 6, adult=1))


def some_door(rng, sales=True):
    """A small door of any kind, maybe with sales, nothing to take back."""
    while True:
        book, promise = some_book(rng), some_promise(rng)
        calendar = some_calendar(rng, book, True, 6)
        try:
            if sales:
                return Door.of(book, promise, calendar)
            return Door(book, promise, calendar.rooms, calendar.first, calendar.after)
        except Barred:
            pass


def some_stay(rng, calendar, book=None):
    """A stay of few nights, mostly within the days, and mostly one that a book lets."""
    if book is not None and rng.random() < 0.7 and let_within(calendar, book):
        return rng.choice(let_within(calendar, book))
    first = rng.randint(calendar.first - (rng.random() < 0.1), calendar.after - 1)
    return Stay(first, first + rng.randint(1, 3))


def shown(door):
    """All that a door shows."""
    return door.calendar_now(), list(door), len(door), door.deeds, [door[guest] for guest in door]


class PlainDoor:
    """A list of sales that are barred plainly, and the lists ahead of all deeds."""

    def __init__(self, door):
        self.book, self.promise = door.book, door.promise
        calendar = door.calendar_now()
        self.days = (calendar.rooms, calendar.first, calendar.after)
        self.sales = list(calendar.sales)
        self.past = []

    def calendar(self):
        return Calendar(*self.days, *self.sales)

    def sell(self, guest, wish, stay):
        if guest in [sale.guest for sale in self.sales]:
            raise Barred("name")
        told = barred_by(self.book, self.promise, self.calendar(), wish, stay)
        if told is not None:
            raise Barred(told[0])
        self.past.append(("sell", list(self.sales)))
        self.sales.append(Sale(guest, wish, stay))

    def cancel(self, guest):
        for sale in self.sales:
            if sale.guest == guest:
                self.past.append(("cancel", list(self.sales)))
                self.sales.remove(sale)
                return sale
        raise NoGuest(guest)

    def undo(self):
        if not self.past:
            raise Nothing()
        word, self.sales = self.past.pop()
        return word


class ErrorsTest(StayTest):
    def test_made(self):
        for value in ANY:
            if not isinstance(value, Book):
                self.raises(BadBook("book"), Door, value, 5, 5, None, None)
                self.raises(BadBook("book"), Door.of, value, 5, 5)
            if not isinstance(value, Promise):
                self.raises(BadPromise("promise"), Door, BOOK, value, 5, None, None)
                self.raises(BadPromise("promise"), Door.of, BOOK, value, 5)
            if not isinstance(value, Calendar):
                self.raises(BadCalendar("calendar"), Door.of, BOOK, PROMISE, value)
            if not is_any_integer(value, 0, GREATEST):
                self.raises(BadCalendar("rooms"), Door, BOOK, PROMISE, value, None, None)
            if type(value) is not int:
                self.raises(BadCalendar("first"), Door, BOOK, PROMISE, 1, value, None)
                self.raises(BadCalendar("after"), Door, BOOK, PROMISE, 1, 0, value)
        self.raises(BadCalendar("after"), Door, BOOK, PROMISE, 1, 5, 5)
        self.raises(TooMany("days", 400), Door, BOOK, PROMISE, 1, 0, 401)
        # Too many days are told ahead of dead ones.
        self.raises(TooMany("days", 400), Door, Book.none(), PROMISE, 1, 0, FAR)
        self.raises(Barred("dead"), Door, BOOK, PROMISE, 1, 0, 1)
        self.raises(Barred("dead"), Door, Book.none(), PROMISE, 1, 0, 400)
        self.assertEqual(len(Door(Book.none(), PROMISE, 0, 0, 400)), 0)
        door = Door(book=BOOK, promise=PROMISE, rooms=1, first=-200, after=200)
        self.same([door.book, door.promise, door.first, door.after], [BOOK, PROMISE, -200, 200])

    def test_made_of_a_calendar(self):
        sale = Sale("ann", "adult", Stay(0, 3))
        door = Door.of(book=BOOK, promise=PROMISE, calendar=Calendar(1, 0, 5, sale))
        self.same([door.book, door.promise, door.first, door.after, door.calendar_now(), door.deeds], [BOOK, PROMISE, 0, 5, Calendar(1, 0, 5, sale), 0])
        self.raises(Nothing(), door.undo)
        # A sale that is not let is told ahead of a dead calendar, this ahead of the promise.
        self.raises(Barred("let"), Door.of, BOOK, PROMISE, Calendar(2, 0, 3, Sale("a", "cat", Stay(0, 2)), Sale("b", "cat", Stay(0, 1))))
        self.raises(Barred("let"), Door.of, BOOK, PROMISE, Calendar(2, 0, 4, Sale("a", "cat", Stay(0, 4))))
        self.raises(Barred("dead"), Door.of, BOOK, PROMISE, Calendar(2, 0, 3, Sale("a", "cat", Stay(0, 2))))
        adults = [Sale(name, "adult", Stay(0, 2)) for name in "abc"]
        self.raises(Barred("promise"), Door.of, BOOK, PROMISE, Calendar(9, 0, 6, *adults))
        self.raises(Barred("promise"), Door.of, BOOK, PROMISE, Calendar(9, 0, 6, Sale("a", "cat", Stay(0, 2))))
        apart = [Sale(name, "adult", Stay(day, day + 2)) for name, day in (("a", 0), ("b", 2), ("c", 4))]
        self.raises(Barred("year"), Door.of, BOOK, PROMISE, Calendar(9, 0, 6, *apart))
        self.assertEqual(list(Door.of(BOOK, PROMISE, Calendar(9, 0, 6, *apart[:2]))), ["a", "b"])

    def test_why_and_offers(self):
        door = Door(BOOK, PROMISE, 3, 0, 5)
        for value in ANY:
            if not is_any_name(value):
                self.raises(BadName(value), door.why, value, 5)
                self.raises(BadName(value), lambda: next(door.offers(value)))
                self.raises(BadName(value), shows_closed, door, value, 5, 5)
                self.raises(BadName(value), shows_open, door, value, 5, 5)
            if not isinstance(value, Stay):
                self.raises(BadStay("stay"), door.why, "adult", value)
                self.raises(BadStay("stay"), shows_closed, door, "adult", value, 5)
                self.raises(BadStay("stay"), shows_open, door, "adult", value, 5)
            self.raises(BadHouse("door"), shows_closed, value, 5, 5, 5)
            self.raises(BadHouse("door"), shows_open, value, 5, 5, 5)
        self.assertEqual(door.why(wish="adult", stay=Stay(0, 2)), Open())
        self.assertEqual(next(door.offers(wish="adult")), Stay(0, 2))
        self.assertIs(shows_closed(door=door, wish="cat", stay=Stay(0, 2), value=Closed("year", None)), True)
        self.assertIs(shows_open(door=door, wish="adult", stay=Stay(0, 2), value=Fill(())), False)

    def test_sell(self):
        door = Door(BOOK, PROMISE, 3, 0, 5)
        door.sell(guest="ann", wish="adult", stay=Stay(0, 3))
        before = shown(door)
        for value in ANY:
            if not is_any_name(value):
                self.raises(BadName(value), door.sell, value, None, None)
                self.raises(BadName(value), door.sell, "ann", value, None)
                self.raises(BadName(value), door.__setitem__, value, 5)
                self.raises(BadName(value), door.__setitem__, "ann", (value, None))
            if not isinstance(value, Stay):
                self.raises(BadStay("stay"), door.sell, "ann", "adult", value)
                self.raises(BadStay("stay"), door.__setitem__, "ann", ("adult", value))
            if not (isinstance(value, tuple) and len(value) == 2):
                self.raises(BadRow(None), door.__setitem__, "ann", value)
            if not isinstance(value, str) or value != "ann":
                self.raises(NoGuest(value), door.cancel, value)
                self.raises(NoGuest(value), lambda: door[value])
                self.assertIs(value in door, False)
        self.raises(BadRow(None), door.__setitem__, "ann", ["adult", Stay(0, 2)])
        self.raises(Barred("name"), door.sell, "ann", "adult", Stay(0, 9))
        self.raises(Barred("name"), door.__setitem__, "ann", ("adult", Stay(0, 9)))
        for word, wish, stay in (("outside", "cat", Stay(-2, 2)), ("outside", "adult", Stay(3, 6)), ("let", "cat", Stay(0, 4)), ("dead", "cat", Stay(1, 3)),
                                 ("promise", "cat", Stay(0, 2)), ("promise", "self"[:3], Stay(3, 5))):
            self.raises(Barred(word), door.sell, "bo", wish, stay)
        self.assertEqual(shown(door), before)

    def test_200_sales_and_more(self):
        door = Door(ALL, MANY, 300, 0, 30)
        for at, name in enumerate(NAMES[:200]):
            door.sell(name, "adult", Stay(at % 20, at % 20 + 3))
        self.assertEqual((len(door), door.deeds), (200, 200))
        before = shown(door)
        self.raises(TooMany("sales", 200), door.sell, "zz", "adult", Stay(0, 9))
        # Ahead of all words, behind the name.
        self.raises(TooMany("sales", 200), door.sell, "zz", "adult", Stay(-9, 99))
        self.raises(Barred("name"), door.sell, NAMES[0], "adult", Stay(-9, 99))
        self.raises(TooMany("sales", 200), door.why, "adult", Stay(-9, 99))
        self.raises(TooMany("sales", 200), lambda: next(door.offers("adult")))
        self.raises(TooMany("sales", 200), shows_closed, door, "adult", Stay(-9, 99), 5)
        self.raises(TooMany("sales", 200), shows_open, door, "adult", Stay(-9, 99), 5)
        self.raises(BadName("A"), lambda: next(door.offers("A")))
        self.assertEqual(shown(door), before)
        self.assertEqual(door.cancel(NAMES[7]).guest, NAMES[7])
        door.sell("zz", "adult", Stay(0, 9))
        self.assertEqual((list(door)[-1], len(door)), ("zz", 200))


class DoorsTest(StayTest):
    def test_against_plain_looks(self):
        rng = random.Random(151)
        words = {}
        for _ in range(120):
            door = some_door(rng)
            calendar, book, promise = door.calendar_now(), door.book, door.promise
            for _ in range(6):
                wish, stay = rng.choice(["adult", "child", "child", "cat"]), some_stay(rng, calendar, door.book)
                expected = barred_by(book, promise, calendar, wish, stay)
                told = door.why(wish, stay)
                if expected is None:
                    self.assertEqual(told, Open())
                    self.assertIs(type(told), Open)
                    self.assertIs(shows_open(door, wish, stay, fill_of(calendar + Sale("zzz", wish, stay), book)), True)
                    words["open"] = words.get("open", 0) + 1
                    continue
                words[told.word] = words.get(told.word, 0) + 1
                if expected[0] == "dead":
                    self.same(told.word, "dead")
                    self.assertIs(type(told.thing), Bar)
                    self.assertIs(is_told_bar(calendar + Sale("zzz", wish, stay), book, told.thing.days), True)
                else:
                    self.assertEqual(told, Closed(*expected))
                self.assertIs(shows_closed(door, wish, stay, told), True)
                self.raises(Barred(told.word), door.sell, "zzz", wish, stay)
        self.assertEqual(sorted(words), ["dead", "full", "let", "open", "outside", "promise", "year"])
        self.assertGreater(min(words.values()), 5, words)

    def test_offers(self):
        rng = random.Random(152)
        some = 0
        for _ in range(100):
            door = some_door(rng)
            calendar = door.calendar_now()
            for wish in ("adult", "child", "cat"):
                expected = [stay for stay in let_within(calendar, door.book) if barred_by(door.book, door.promise, calendar, wish, stay) is None]
                self.assertEqual(list(door.offers(wish)), expected)
                some += len(expected)
                for stay in expected[:2]:
                    door.tried(lambda same: same.sell("zzz", wish, stay))
        self.assertGreater(some, 100)

    def test_offers_of_400_days(self):
        rng = random.Random(153)
        for first in (0, -FAR):
            door = Door(Book([3, 2]), MANY, 40, first, first + 400)
            for name in NAMES[:150]:
                stay = rng.choice(list(Book([3, 2]).let_stays(first, first + 400)))
                if door.why("adult", stay):
                    door.sell(name, "adult", stay)
            self.assertGreater(len(door), 100)
            told = list(door.offers("adult"))
            self.assertEqual(told, [stay for stay in door.book.let_stays(first, first + 400) if door.why("adult", stay)])
            self.assertEqual(list(door.offers("cat")), [])

    def test_offers_when_the_first_one_is_requested(self):
        door = Door(BOOK, PROMISE, 1, 0, 5)
        told = door.offers("adult")
        door.sell("ann", "adult", Stay(0, 2))
        first = next(told)
        self.assertEqual(first, Stay(2, 5))
        door.cancel("ann")
        self.assertEqual(list(told), [])

    def test_deeds(self):
        rng = random.Random(154)
        done = {}
        for _ in range(60):
            door = some_door(rng, rng.random() < 0.5)
            plain = PlainDoor(door)
            for _ in range(25):
                told = [some_deed(rng, door), None]
                outcome = carried_out(door, told[0])
                self.assert_outcome(outcome, carried_out(plain, told[0]))
                self.assertEqual((door.calendar_now(), door.deeds), (plain.calendar(), len(plain.past)))
                self.assertEqual((list(door), len(door)), ([sale.guest for sale in plain.sales], len(plain.sales)))
                key = outcome.word if isinstance(outcome, Barred) else type(outcome).__name__ if isinstance(outcome, StayError) else told[0][0]
                done[key] = done.get(key, 0) + 1
                self.assertIs(can_fill(door.calendar_now(), door.book), True)
                self.assertIs(door.calendar_now().as_row().is_let(door.promise), True)
        self.assertGreaterEqual(set(done), {"sell", "cancel", "undo", "NoGuest", "Nothing", "name", "full", "dead", "promise", "year"})

    def assert_outcome(self, one, other):
        """Both returned the same, or raised the same error."""
        if isinstance(other, StayError):
            self.assertIs(type(one), type(other), (one, other))
            self.assertEqual(vars(one), vars(other))
        else:
            self.assertEqual(one, other)

    def test_trials(self):
        rng = random.Random(155)
        for _ in range(40):
            door = some_door(rng)
            for _ in range(6):
                carried_out(door, some_deed(rng, door))
            before, past = shown(door), undone(door)

            def work(same, deep):
                self.assertIs(same, door)
                for _ in range(5):
                    carried_out(same, some_deed(rng, same))
                if deep:
                    inner, inner_past = shown(same), undone(same)
                    with same.trial() as again:
                        self.assertIs(again, door)
                        work(again, deep - 1)
                    self.assertEqual((shown(same), undone(same)), (inner, inner_past))
                return same.calendar_now()
            inside = door.tried(lambda same: work(same, 2))
            self.assertIsInstance(inside, Calendar)
            self.assertEqual((shown(door), undone(door)), (before, past))
            for error in (ZeroDivisionError, Nothing):
                with self.assertRaises(error):
                    with door.trial() as same:
                        work(same, 1)
                        raise error()
                self.assertEqual((shown(door), undone(door)), (before, past))

    def test_twins(self):
        rng = random.Random(156)
        for _ in range(30):
            door = some_door(rng)
            for _ in range(6):
                carried_out(door, some_deed(rng, door))
            twin, before = door.twin(), shown(door)
            self.assertEqual((twin, twin.deeds), (door, 0))
            self.assertIsNot(twin, door)
            self.raises(Nothing(), twin.undo)
            for _ in range(6):
                carried_out(twin, some_deed(rng, twin))
            self.assertEqual(shown(door), before)
            self.assertIs(twin == door, twin.calendar_now() == door.calendar_now())
            self.assertEqual(Door.of(door.book, door.promise, door.calendar_now()), door)

    def test_equality(self):
        door = Door(BOOK, PROMISE, 3, 0, 5)
        self.assertEqual(door, Door(Book([2, 3], [3, 2]), PROMISE, 3, 0, 5))
        for other in (Door(Book([2, 3, 1]), PROMISE, 3, 0, 5), Door(BOOK, Promise(), 3, 0, 5), Door(BOOK, PROMISE, 2, 0, 5), Door(BOOK, PROMISE, 3, 0, 6),
                      Door(BOOK, PROMISE, 3, -1, 5), door.calendar_now()):
            self.assertIs(door == other, False)
        door.sell("ann", "adult", Stay(0, 2))
        door.cancel("ann")
        self.assertEqual(door, Door(BOOK, PROMISE, 3, 0, 5))
        for value in ANY:
            self.assertIs(door == value, False)

    def test_sales_keep_their_places(self):
        door = Door(BOOK, PROMISE, 3, 0, 5)
        door["ann"] = ("adult", Stay(0, 3))
        door["bo"] = ("child", Stay(2, 5))
        self.assertEqual((list(door), door["bo"], "ann" in door, len(door)), (["ann", "bo"], Sale("bo", "child", Stay(2, 5)), True, 2))
        self.assertEqual(door.cancel(guest="ann"), Sale("ann", "adult", Stay(0, 3)))
        door["ann"] = ("adult", Stay(0, 3))
        self.assertEqual(list(door), ["bo", "ann"])
        self.assertEqual([door.undo(), door.undo(), list(door), door.deeds], ["sell", "cancel", ["ann", "bo"], 2])
        self.assertEqual([door.undo(), door.undo(), list(door), door.deeds], ["sell", "sell", [], 0])
        self.raises(Nothing(), door.undo)

    def test_calendars_are_kept(self):
        door = Door(BOOK, PROMISE, 3, 0, 5)
        calendar = door.calendar_now()
        door.sell("ann", "adult", Stay(0, 3))
        self.assertEqual((len(calendar), len(door.calendar_now())), (0, 1))

    def test_papers(self):
        self.assertEqual((Open.__bases__, Closed.__bases__), ((Paper,), (Denial,)))
        self.assertEqual((bool(Open()), bool(Closed("let", None)), vars(Open())), (True, False, {}))


def some_deed(rng, door):
    """A deed, mostly one that can be carried out."""
    kind = rng.choice(["sell", "sell", "sell", "sell", "cancel", "undo"])
    guest = rng.choice(NAMES[:8])
    if kind == "sell":
        wish = rng.choice(["adult", "child", "child"])
        offers = list(door.offers(wish))
        stay = rng.choice(offers) if offers and rng.random() < 0.6 else some_stay(rng, door.calendar_now(), door.book)
        return kind, guest, wish, stay
    return (kind, guest) if kind == "cancel" else (kind,)


def carried_out(door, deed):
    """What a deed returns, or the error that it raises."""
    kind, *told = deed
    try:
        return getattr(door, kind)(*told)
    except StayError as error:
        return error


def undone(door):
    """All that is shown while everything is taken back."""
    def work(same):
        states = []
        while same.deeds:
            states.append((same.undo(), shown(same)))
        return states
    return door.tried(work)


class LookTest(StayTest):
    def words(self, door, wish, stay):
        """All words that hold, as they may be told, each with its thing; None stands for a bar."""
        calendar = door.calendar_now()
        if stay.first < door.first or stay.after > door.after:
            return {"outside": None}
        told = {} if door.book(stay) else {"let": None}
        if full_night(calendar, stay) is not None:
            return {**told, "full": full_night(calendar, stay)}
        if not can_fill(calendar + Sale("zzz", wish, stay), door.book):
            told["dead"] = None
        if broken_night(door.promise, calendar, wish, stay) is not None:
            told["promise"] = broken_night(door.promise, calendar, wish, stay)
        if not is_kept(door.promise, [sale.wish for sale in calendar.sales] + [wish], True):
            told["year"] = None
        return told

    def test_words(self):
        rng = random.Random(157)
        right = {}
        for _ in range(120):
            door = some_door(rng)
            calendar = door.calendar_now()
            for _ in range(5):
                wish, stay = rng.choice(["adult", "child", "cat"]), some_stay(rng, calendar, door.book)
                told = self.words(door, wish, stay)
                for word in ("outside", "let", "full", "dead", "promise", "year", "past", "Let", "", None, 0, ("let",)):
                    for thing in [None, True, 0, "", (), Bar(()), *range(calendar.first, calendar.after + 1)]:
                        expected = word in told and word != "dead" and type(thing) is type(told[word]) and thing == told[word]
                        self.assertIs(shows_closed(door, wish, stay, Closed(word, thing)), expected, (word, thing))
                        right[word] = right.get(word, 0) + expected
                if "dead" in told:
                    after = calendar + Sale("zzz", wish, stay)
                    self.assertIs(shows_closed(door, wish, stay, Closed("dead", fill_of(after, door.book))), True)
                    self.assertIs(shows_closed(door, wish, stay, Closed("dead", fill_of(after, door.book).days)), False)
                    right["dead"] += 1
                for value in (5, None, Open(), door.why(wish, stay)):
                    self.assertIs(shows_closed(door, wish, stay, value), isinstance(value, Closed))
        self.assertGreater(min(right[word] for word in ("outside", "let", "full", "dead", "promise", "year")), 10, right)

    def test_bars(self):
        rng = random.Random(158)
        some = 0
        for _ in range(250):
            door = some_door(rng)
            calendar = door.calendar_now()
            stay = some_stay(rng, calendar, door.book)
            if "dead" not in self.words(door, "adult", stay):
                continue
            after = calendar + Sale("zzz", "adult", stay)
            days = range(calendar.first, calendar.after + 1)
            for chosen in range(2 ** len(days)):
                told = tuple(day for at, day in enumerate(days) if chosen >> at & 1)
                self.assertIs(shows_closed(door, "adult", stay, Closed("dead", Bar(told))), is_told_bar(after, door.book, told))
            some += 1
        self.assertGreater(some, 8)

    def test_open(self):
        rng = random.Random(159)
        right = 0
        for _ in range(150):
            door = some_door(rng)
            calendar = door.calendar_now()
            wish, stay = rng.choice(["adult", "child", "cat"]), some_stay(rng, calendar, door.book)
            told = self.words(door, wish, stay)
            if "outside" in told or "full" in told:
                values = [Fill(()), fill_of(calendar, door.book)]
            else:
                after = calendar + Sale("zzz", wish, stay)
                values = [fill_of(after, door.book), Fill(()), fill_of(calendar, door.book), Fill(list(getattr(fill_of(after, door.book), "parts", [])))]
            for value in values + [None, 5, (), Open(), Closed("let", None)]:
                expected = not told and isinstance(value, Fill) and is_fill(after, door.book, value.parts)
                self.assertIs(shows_open(door, wish, stay, value), expected)
                right += expected
        self.assertGreater(right, 20)

    def test_a_sale_of_which_the_promise_does_not_know(self):
        door = Door(BOOK, PROMISE, 3, 0, 5)
        for word, thing, expected in (("promise", 0, True), ("promise", 1, False), ("year", None, True), ("dead", Bar((0,)), False)):
            self.assertIs(shows_closed(door, "cat", Stay(0, 2), Closed(word, thing)), expected)
        self.assertEqual(door.why("cat", Stay(2, 5)), Closed("promise", 2))
        # A wish in a year alone is not known of either.
        only = Door(BOOK, Promise(YearLimit(5, adult=1)), 3, 0, 5)
        self.assertEqual(only.why("adult", Stay(2, 5)), Closed("promise", 2))
        self.assertIs(shows_closed(only, "adult", Stay(2, 5), Closed("year", None)), True)

    def test_year_alone(self):
        door = Door(BOOK, Promise(Limit(5, adult=1), YearLimit(0, adult=1)), 3, 0, 5)
        self.assertEqual(door.why("adult", Stay(0, 2)), Closed("year", None))
        self.assertEqual(list(door.offers("adult")), [])
        self.assertEqual(door.calendar_now().sold(), Counts())


if __name__ == "__main__":
    unittest.main()
