"""Fills and bars: whether the free nights of a calendar can be sold."""

import random
import unittest

from stayhouse.books import Book
from stayhouse.calendars import Calendar, Sale
from stayhouse.errors import BadBook, BadCalendar
from stayhouse.fills import Bar, Fill, fill_of, is_sellable
from stayhouse.look_nights import shows_fill
from stayhouse.stays import Stay

from helpers import ANY, GREATEST, StayTest
from plain_looks import changed_once
from plain_nights import NAMES, can_fill, has_bar, is_fill, is_told_bar, some_book, some_calendar

FAR = 10 ** 39
BOOK = Book([3, 2])
LONE = Calendar(1, 0, 5, Sale("ann", "adult", Stay(1, 3)))


def calendars(seed, many, let=True, nights=6):
    """Small calendars with books, always the same ones for a seed."""
    rng = random.Random(seed)
    for _ in range(many):
        book = some_book(rng)
        yield some_calendar(rng, book, let, nights), book, rng


def great_calendar(rng, book, rooms, many, first=0):
    """A calendar of 400 days with so many sales of let stays."""
    calendar = Calendar(rooms, first, first + 400)
    stays = list(book.let_stays(first, first + 400))
    sales = []
    for name in NAMES[:many]:
        sales.append(Sale(name, "adult", rng.choice(stays)))
    return Calendar(rooms, first, first + 400, *sales) if rooms >= many else calendar


class FillsTest(StayTest):
    def test_errors(self):
        for function, end in ((fill_of, ()), (is_sellable, ()), (shows_fill, (5,))):
            for value in ANY:
                if not isinstance(value, Calendar):
                    self.raises(BadCalendar("calendar"), function, value, 5, *end)
                if not isinstance(value, Book):
                    self.raises(BadBook("book"), function, LONE, value, *end)
        self.assertIs(is_sellable(calendar=LONE, book=BOOK), False)
        self.assertEqual(fill_of(calendar=LONE, book=BOOK), Bar((0, 2, 3, 4, 5)))
        self.assertIs(shows_fill(calendar=LONE, book=BOOK, value=Bar((0, 2, 3, 4, 5))), True)

    def test_against_plain_filling_and_all_closed_sets(self):
        told = {True: 0, False: 0}
        for let in (True, False):
            for calendar, book, _ in calendars(141 + let, 250, let):
                right = can_fill(calendar, book)
                self.assertIs(has_bar(calendar, book), not right)
                self.assertIs(is_sellable(calendar, book), right)
                found = fill_of(calendar, book)
                self.assertIs(type(found), Fill if right else Bar)
                self.assertIs(bool(found), right)
                if right:
                    self.assertIs(is_fill(calendar, book, found.parts), True)
                else:
                    self.assertIs(is_told_bar(calendar, book, found.days), True)
                self.assertEqual(fill_of(calendar, book), found)
                self.assertIs(shows_fill(calendar, book, found), True)
                told[right] += 1
        self.assertGreater(min(told.values()), 100)

    def test_cancelled_sales_never_hurt(self):
        some = 0
        for calendar, book, _ in calendars(143, 200):
            if is_sellable(calendar, book):
                for guest in calendar:
                    self.assertIs(is_sellable(calendar - guest, book), True)
                    some += 1
        self.assertGreater(some, 60)

    def test_no_room_is_free(self):
        self.assertEqual(fill_of(Calendar(0, 0, 5), Book.none()), Fill(()))
        self.assertIs(is_sellable(Calendar(0, 0, 400), Book.none()), True)
        self.assertIs(is_sellable(Calendar(1, 0, 1), Book.none()), False)
        self.assertEqual(fill_of(Calendar(1, 0, 3, Sale("a", "b", Stay(0, 3))), BOOK), Fill(()))

    def test_great_numbers(self):
        for first in (0, -7, FAR, -FAR):
            calendar = Calendar(GREATEST, first, first + 5)
            found = fill_of(calendar, BOOK)
            self.assertIs(is_fill(calendar, BOOK, found.parts), True)
            self.assertEqual({number for _, number in found.parts}, {GREATEST})
            self.assertIs(is_sellable(Calendar(GREATEST, first, first + 1), BOOK), False)

    def test_400_days_and_200_sales(self):
        rng = random.Random(144)
        told = set()
        for book in (Book(range_of(30)), Book([2, 3]), Book([2], [3, 7], [5]), Book([29, 30]), Book([7, 1], [2])):
            for rooms in (200, GREATEST):
                for first in (0, -200, FAR):
                    calendar = great_calendar(rng, book, rooms, 200, first)
                    self.assertEqual(len(calendar), 200)
                    found = fill_of(calendar, book)
                    self.assertIs(shows_fill(calendar, book, found), True)
                    self.assertIs(is_sellable(calendar, book), bool(found))
                    told.add(bool(found))
        self.assertEqual(told, {True, False})


class LookFillsTest(StayTest):
    def test_other_values(self):
        for value in ANY + [Fill, Bar, (0, 2, 3, 4, 5), [0, 2]]:
            self.assertIs(shows_fill(LONE, BOOK, value), False)
            self.assertIs(shows_fill(LONE, BOOK, Fill(value)), False)
            self.assertIs(shows_fill(LONE, BOOK, Bar(value)), value == (0, 2, 3, 4, 5))
            self.assertIs(shows_fill(Calendar(0, 0, 1), BOOK, Fill(value)), value == ())

    def test_changed(self):
        rng = random.Random(145)
        right = wrong = 0
        for let in (True, False):
            for calendar, book, _ in calendars(146 + let, 60, let):
                found = fill_of(calendar, book)
                for _ in range(20):
                    if found:
                        told = Fill(changed_parts(rng, calendar, found.parts))
                        expected = is_fill(calendar, book, told.parts)
                    else:
                        told = Bar(changed_once(rng, found.days))
                        expected = is_told_bar(calendar, book, told.days)
                    self.assertIs(shows_fill(calendar, book, told), expected, told.kept())
                    right += expected
                    wrong += not expected
        self.assertGreater(right, 50)
        self.assertGreater(wrong, 500)

    def test_all_sets_of_days(self):
        for calendar, book, _ in calendars(148, 12, False, 4):
            days = range(calendar.first - 1, calendar.after + 2)
            for chosen in range(2 ** len(days)):
                told = tuple(day for at, day in enumerate(days) if chosen >> at & 1)
                self.assertIs(shows_fill(calendar, book, Bar(told)), is_told_bar(calendar, book, told))

    def test_other_fills(self):
        two = Calendar(1, 0, 12)
        for parts, expected in ((((Stay(0, 2), 1), (Stay(2, 12), 1)), False), (tuple((Stay(day, day + 2), 1) for day in range(0, 12, 2)), True),
                                (tuple((Stay(day, day + 3), 1) for day in range(0, 12, 3)), True), (((Stay(0, 12), 1),), False)):
            self.assertIs(shows_fill(two, BOOK, Fill(parts)), expected)
            self.assertIs(shows_fill(two, BOOK, Fill(parts[::-1])), expected)
            self.assertIs(shows_fill(two, BOOK, Fill(list(parts))), False)
            self.assertIs(shows_fill(two, BOOK, Fill(parts + parts[:1])), False)
        short = Calendar(2, 0, 2)
        for parts, expected in ((((Stay(0, 2), 2),), True), (((Stay(0, 2), 1), (Stay(0, 2), 1)), False), (((Stay(0, 2), 2), (Stay(0, 2), 0)), False),
                                (((Stay(0, 2), 1),), False), (((Stay(0, 2), 3),), False), (((Stay(0, 2), "2"),), False), (([Stay(0, 2), 2],), False),
                                (((Stay(0, 2), 2, 2),), False), ((("0 to 2", 2),), False), (((Stay(0, 2), 2), (Stay(2, 4), 1)), False),
                                (((Stay(0, 2), 2), (Stay(-2, 0), 1)), False)):
            self.assertIs(shows_fill(short, BOOK, Fill(parts)), expected, parts)
        self.assertIs(shows_fill(Calendar(1, 0, 2), BOOK, Fill(((Stay(0, 2), 1),))), True)
        # True is no integer.
        self.assertIs(shows_fill(Calendar(1, 0, 2), BOOK, Fill(((Stay(0, 2), True),))), False)
        self.assertIs(shows_fill(LONE, BOOK, Bar((False, 2, 3, 4, 5))), False)


def range_of(most):
    """The numbers from 1 on."""
    return list(range(1, most + 1))


def changed_parts(rng, calendar, parts):
    """Parts of a fill with something otherwise: a stay, a number, a part."""
    kind = rng.random()
    if not parts or kind < 0.3:
        return changed_once(rng, parts)
    at = rng.randrange(len(parts))
    stay, number = parts[at]
    if kind < 0.6:
        first = stay.first + rng.choice([0, 0, -1, 1])
        other = (Stay(first, max(first + 1, stay.after + rng.choice([-1, 0, 1, 2]))), number)
    else:
        other = (stay, number + rng.choice([-1, 0, 1]))
    return parts[:at] + (other,) + parts[at + 1:]


if __name__ == "__main__":
    unittest.main()
