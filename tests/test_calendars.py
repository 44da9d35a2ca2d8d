"""Sales and calendars: made, changed, counted, written, read and refused."""

import inspect
import random
import unittest
from collections import Counter

from stayhouse.calendars import Calendar, Sale
from stayhouse.counts import Counts
from stayhouse.errors import BadCalendar, BadName, BadNumber, BadStay, BadText, NoGuest, TooMany
from stayhouse.limits import Limit, YearLimit
from stayhouse.promises import Promise
from stayhouse.rows import Row
from stayhouse.stays import Stay

from helpers import ANY, GREATEST, StayTest, is_any_integer, is_any_name

FAR = 10 ** 39
HALL = Calendar(2, 0, 5, Sale("ann", "adult", Stay(0, 3)), Sale("bo", "child", Stay(1, 3)))
NAMES = [one + other for one in "abcdefghijklmnop" for other in "abcdefghijklmnop"]


def some_calendar(rng, nights=6, most=6):
    """A small calendar of any kind."""
    first = rng.choice([0, 0, -3, 5, FAR])
    after = first + rng.randint(1, nights)
    rooms = rng.randint(0, 3)
    calendar = Calendar(rooms, first, after)
    for name in NAMES[:rng.randint(0, most)]:
        begin = rng.randint(first, after - 1)
        stay = Stay(begin, rng.randint(begin + 1, after))
        if all(calendar.free_on(day) > 0 for day in range(stay.first, stay.after)):
            calendar = calendar + Sale(name, rng.choice(["adult", "child"]), stay)
    return calendar


def plain_free(calendar, day):
    """The free rooms of a night, counted."""
    if not calendar.first <= day < calendar.after:
        return 0
    return calendar.rooms - sum(sale.stay.first <= day < sale.stay.after for sale in calendar.sales)


def plain_row(calendar):
    """The events of the row of a calendar, day by day."""
    events, came = [], []
    for day in range(calendar.first, calendar.after + 1):
        events += [came.index(sale) for sale in came if sale.stay.after == day]
        for sale in calendar.sales:
            if sale.stay.first == day:
                events.append(sale.wish)
                came.append(sale)
    return tuple(events)


class SalesTest(StayTest):
    def test_ordinary(self):
        sale = Sale("ann", "adult", Stay(0, 3))
        self.same([sale.guest, sale.wish, sale.stay, str(sale)], ["ann", "adult", Stay(0, 3), "ann adult 0 to 3"])
        self.assertEqual(Sale(guest="ann", wish="adult", stay=Stay(0, 3)), sale)
        self.assertNotEqual(Sale("bo", "adult", Stay(0, 3)), sale)
        self.assertNotEqual(Sale("ann", "child", Stay(0, 3)), sale)
        self.assertNotEqual(Sale("ann", "adult", Stay(0, 4)), sale)
        for value in ANY:
            self.assertIs(sale == value, False)

    def test_errors(self):
        for value in ANY:
            if not is_any_name(value):
                self.raises(BadName(value), Sale, value, 5, 5)
                self.raises(BadName(value), Sale, "ann", value, 5)
            if not isinstance(value, Stay):
                self.raises(BadStay("stay"), Sale, "ann", "adult", value)


class CalendarsTest(StayTest):
    def test_ordinary(self):
        sales = (Sale("bo", "child", Stay(1, 3)), Sale("ann", "adult", Stay(0, 3)))
        calendar = Calendar(2, 0, 5, *sales)
        self.same([calendar.rooms, calendar.first, calendar.after, calendar.sales], [2, 0, 5, sales])
        self.same([len(calendar), list(calendar), "ann" in calendar, calendar["bo"]], [2, ["bo", "ann"], True, sales[0]])
        self.assertEqual(Calendar(rooms=2, first=0, after=5), calendar - "ann" - "bo")
        self.assertEqual(bool(Calendar(1, 0, 1)), False)
        self.assertEqual(list(inspect.signature(Calendar).parameters)[:3], ["rooms", "first", "after"])

    def test_wrong_numbers(self):
        for value in ANY:
            if not is_any_integer(value, 0, GREATEST):
                self.raises(BadCalendar("rooms"), Calendar, value, None, None, 5)
            if type(value) is not int:
                self.raises(BadCalendar("first"), Calendar, 0, value, None, 5)
                self.raises(BadCalendar("after"), Calendar, 0, 0, value, 5)
        for rooms in (-1, GREATEST + 1):
            self.raises(BadCalendar("rooms"), Calendar, rooms, 0, 1)
        self.raises(BadCalendar("after"), Calendar, 0, 5, 5)
        self.raises(BadCalendar("after"), Calendar, 0, 5, 4)
        for rooms in (0, GREATEST):
            self.assertEqual(Calendar(rooms, 0, 1).free_on(0), rooms)

    def test_400_days_and_401(self):
        for first in (0, -200, FAR, -FAR):
            self.assertEqual(Calendar(1, first, first + 400).after, first + 400)
            self.raises(TooMany("days", 400), Calendar, 1, first, first + 401)
            # Ahead of what is no sale.
            self.raises(TooMany("days", 400), Calendar, 1, first, first + 401, 5)
        self.raises(TooMany("days", 400), Calendar, 1, 0, FAR)

    def test_wrong_sales(self):
        sale = Sale("ann", "adult", Stay(0, 1))
        for value in ANY:
            if not isinstance(value, Sale):
                self.raises(BadCalendar(0), Calendar, 1, 0, 1, value)
                self.raises(BadCalendar(2), Calendar, 1, 0, 1, sale, sale, value, value)
                self.raises(BadCalendar("sale"), lambda: HALL + value)
        self.raises(BadCalendar("twice"), Calendar, 5, 0, 5, sale, Sale("ann", "child", Stay(3, 4)))
        # Twice is told ahead of outside, outside ahead of full.
        self.raises(BadCalendar("twice"), Calendar, 0, 0, 5, sale, Sale("ann", "child", Stay(3, 9)))
        self.raises(BadCalendar("outside"), Calendar, 0, 0, 5, sale, Sale("bo", "child", Stay(3, 9)))
        self.raises(BadCalendar("full"), Calendar, 0, 0, 5, sale)
        for stay, right in ((Stay(0, 5), True), (Stay(-1, 2), False), (Stay(4, 6), False), (Stay(5, 6), False), (Stay(-1, 0), False), (Stay(4, 5), True),
                            (Stay(-FAR, FAR), False)):
            if right:
                Calendar(1, 0, 5, Sale("ann", "adult", stay))
            else:
                self.raises(BadCalendar("outside"), Calendar, 1, 0, 5, Sale("ann", "adult", stay))

    def test_full(self):
        sales = [Sale(name, "adult", Stay(day, day + 2)) for name, day in (("a", 0), ("b", 1), ("c", 2), ("d", 0))]
        Calendar(2, 0, 4, *sales[:3])
        self.raises(BadCalendar("full"), Calendar, 2, 0, 4, *sales)
        self.assertEqual([Calendar(3, 0, 4, *sales).free_on(day) for day in range(4)], [1, 0, 1, 2])
        self.raises(BadCalendar("full"), lambda: HALL + Sale("cy", "adult", Stay(2, 4)))
        self.assertEqual((HALL + Sale("cy", "adult", Stay(3, 5))).free_on(4), 1)

    def test_200_sales_and_201(self):
        sales = [Sale(name, "adult", Stay(0, 1)) for name in NAMES[:201]]
        full = Calendar(GREATEST, 0, 1, *sales[:200])
        self.assertEqual((len(full), full.free_on(0), full.sold()), (200, GREATEST - 200, Counts(adult=200)))
        self.raises(TooMany("sales", 200), Calendar, GREATEST, 0, 1, *sales)
        self.raises(TooMany("sales", 200), lambda: full + sales[200])
        # What is no sale is told ahead of it, a name twice behind it.
        self.raises(BadCalendar(200), Calendar, 0, 0, 1, *sales[:200], 5)
        self.raises(TooMany("sales", 200), Calendar, 0, 0, 1, *sales[:200], sales[0])
        self.raises(BadCalendar("twice"), Calendar, 0, 0, 1, *sales[:199], sales[0])

    def test_guests(self):
        for value in ANY + ["ann ", "bob", ("ann",), ["ann"]]:
            self.raises(NoGuest(value), lambda: HALL[value])
            self.raises(NoGuest(value), lambda: HALL - value)
            self.assertIs(value in HALL, False)
        self.assertIs("ann" in HALL, True)
        self.assertEqual(HALL - "ann", Calendar(2, 0, 5, HALL["bo"]))
        self.assertEqual(HALL - "bo" + HALL["bo"], HALL)
        self.assertNotEqual(HALL - "ann" + HALL["ann"], HALL)
        self.assertEqual(len(HALL), 2)

    def test_equality(self):
        sales = (Sale("ann", "adult", Stay(0, 3)),)
        one = Calendar(2, 0, 5, *sales)
        for other in (Calendar(3, 0, 5, *sales), Calendar(2, -1, 5, *sales), Calendar(2, 0, 6, *sales), Calendar(2, 0, 5)):
            self.assertIs(one == other, False)
        self.assertIs(one == Calendar(2, 0, 5, *sales), True)
        for value in ANY:
            self.assertIs(HALL == value, False)

    def test_days_that_are_none(self):
        for work in (HALL.free_on, HALL.supply, HALL.standing_on):
            for value in ANY:
                if type(value) is not int:
                    self.raises(BadNumber(value), work, value)
        self.assertEqual([HALL.free_on(day=0), HALL.supply(day=0), HALL.standing_on(day=0)], [1, 1, Counts(adult=1)])

    def test_against_plain_counting(self):
        rng = random.Random(21)
        for _ in range(200):
            calendar = some_calendar(rng)
            for day in [*range(calendar.first - 3, calendar.after + 3), 0, FAR, -FAR]:
                self.assertEqual(calendar.free_on(day), plain_free(calendar, day))
                self.assertEqual(calendar.supply(day), plain_free(calendar, day) - plain_free(calendar, day - 1))
                over = Counter(sale.wish for sale in calendar.sales if day in range(sale.stay.first, sale.stay.after))
                self.assertEqual(calendar.standing_on(day), Counts.of(dict(over)))
            self.assertEqual(calendar.sold(), Counts.of(dict(Counter(sale.wish for sale in calendar.sales))))
            self.same(calendar.as_row(), Row.of(plain_row(calendar)))
            self.assertEqual(sum(calendar.supply(day) for day in range(calendar.first, calendar.after + 1)), 0)

    def test_rows(self):
        self.assertEqual(Calendar(1, 0, 1).as_row(), Row())
        # Who goes goes first, by the order of the comings; who comes comes by the order of the sales.
        sales = [Sale("a", "x", Stay(2, 4)), Sale("b", "y", Stay(0, 2)), Sale("c", "z", Stay(0, 4)), Sale("d", "w", Stay(2, 3))]
        self.assertEqual(str(Calendar(9, 0, 9, *sales).as_row()), "y z 0 x w 3 1 2")

    def test_rows_that_keep_a_promise_night_by_night_are_let(self):
        rng = random.Random(22)
        promise = Promise(Limit(2, adult=1, child=1), YearLimit(3, adult=1))
        for _ in range(200):
            calendar = some_calendar(rng)
            kept = all(promise.keeps(calendar.standing_on(day), calendar.sold()) for day in range(calendar.first, calendar.after))
            self.assertIs(calendar.as_row().is_let(promise), kept)

    def test_texts(self):
        for calendar in (HALL, Calendar(0, -5, 5), Calendar(GREATEST, FAR, FAR + 1, Sale("a", "b", Stay(FAR, FAR + 1)))):
            many = len(str(calendar).split(" "))
            self.read_of(Calendar.read, calendar, list(range(6, many, 6)), ("?", "", "Self", "00", "a\n", "+1"))
        self.same([str(HALL), str(Calendar(0, -5, 5))],
                  ["rooms 2 days 0 to 5 ; ann adult 0 to 3 ; bo child 1 to 3", "rooms 0 days -5 to 5"])
        self.assertEqual(Calendar.read(text=str(HALL)), HALL)
        rng = random.Random(23)
        for _ in range(60):
            calendar = some_calendar(rng)
            self.assertEqual(Calendar.read(str(calendar)), calendar)

    def test_wrong_texts(self):
        self.read_wrong(Calendar.read, {
            "": 0, "rooms": 1, "rooms -1 days 0 to 1": 1, f"rooms {GREATEST + 1} days 0 to 1": 1, "rooms 1 days 0 to": 5, "rooms 1 days 0 to 1 ;": 7,
            "rooms 1 days 0 to 1 ; ann": 8, "rooms 1 days 0 to 1 ; ann a 0 to": 11, "rooms 1 days 0 to 1 ; self a 0 to 1": 7,
            "rooms 1 days 0 to 1 , ann a 0 to 1": 6, "rooms 1 days 0 to 1 ; ann a 0 to 1 ;": 13, "rooms 1 days 0 to 1 ; ann a 0 1": 10,
            f"rooms 1 days {'1' * 1001} to 5": 3, "rooms 1 days 0 to 1 ann a 0 to 1": 6,
            # Words are told ahead of all that the classes refuse.
            "rooms 1 days 5 to 1 ; ann a 3 to 1 ; x": 14, "rooms 1 days 5 to 1 x": 6,
        })
        text = str(HALL)
        self.left_out(Calendar.read, text, {7: 8, 13: 14})
        self.exchanged(Calendar.read, text, {5: 5, 7: None, 13: None})
        self.doubled(Calendar.read, text, {1: 2, 3: 4, 7: 9, 8: 9, 13: 15, 14: 15})

    def test_what_is_read_and_refused(self):
        cases = [
            ("rooms 1 days 5 to 5", BadCalendar("after")), ("rooms 1 days 5 to 1", BadCalendar("after")), ("rooms 1 days 0 to 401", TooMany("days", 400)),
            # A sale that cannot be made is told ahead of the calendar.
            ("rooms 1 days 5 to 1 ; ann a 3 to 1", BadStay("after")), ("rooms 1 days 0 to 9 ; ann a 3 to 3 ; ann a 0 to 20", BadStay("after")),
            ("rooms 1 days 0 to 9 ; ann a 3 to 4 ; ann a 0 to 20", BadCalendar("twice")), ("rooms 1 days 0 to 9 ; ann a 3 to 10", BadCalendar("outside")),
            ("rooms 0 days 0 to 9 ; ann a 3 to 4", BadCalendar("full")),
            ("rooms 900 days 0 to 9" + "".join(f" ; {name} a 0 to 1" for name in NAMES[:201]), TooMany("sales", 200)),
        ]
        for text, error in cases:
            with self.subTest(text=text[:60]):
                self.raises(error, Calendar.read, text)
        self.raises(BadText(0, 6), Calendar.read, "rooms 1 days 5 to 5 ")


if __name__ == "__main__":
    unittest.main()
