"""Books: which stays they let, joined, compared, written, read and refused."""

import inspect
import random
import unittest

from stayhouse.books import Book
from stayhouse.errors import BadBook, BadStay, BadText, TooMany
from stayhouse.stays import Stay

from helpers import ANY, StayTest

FAR = 10 ** 39


def some_rows(rng, most=6):
    """Rows of a book, few or many, often with the same ones again."""
    rows = [rng.sample(range(1, 6), rng.randint(0, 3)) for _ in range(rng.randint(1, most))]
    return rows * rng.choice([1, 1, 2, 3])


def books(seed, many):
    """Small books, each with the rows that it was made of."""
    rng = random.Random(seed)
    for _ in range(many):
        rows = some_rows(rng)
        yield Book(*rows), rows, rng


def is_let(rows, first, nights):
    """Whether rows let a stay, plainly."""
    return nights in rows[first % len(rows)]


def let_by(book, first=-3, after=30):
    """All pairs (first day, nights) of few days that a book lets, asked stay by stay."""
    return {(day, nights) for day in range(first, after) for nights in range(1, 8) if book(Stay(day, day + nights))}


def plain_ways(rows, first, after):
    """All rows of let stays, each a tuple of days, that fill the days."""
    if first == after:
        return [(after,)]
    return [(first,) + way for nights in range(1, after - first + 1) if is_let(rows, first, nights)
            for way in plain_ways(rows, first + nights, after)]


class BooksTest(StayTest):
    def test_ordinary(self):
        book = Book([3, 2])
        self.same(book.rows, ((2, 3),))
        self.same(Book([3, 1], (), (30,)).rows, ((1, 3), (), (30,)))
        self.same([Book.none().rows, str(Book.none())], [((),), "-"])
        self.assertEqual(list(inspect.signature(Book.let_stays).parameters), ["self", "first", "after"])
        self.assertEqual([book(stay=Stay(0, 2)), book.fills(stay=Stay(0, 1)), book.row_for(stay=Stay(0, 2))], [True, False, (Stay(0, 2),)])
        self.assertEqual(list(book.let_stays(first=0, after=2)), [Stay(0, 2)])

    def test_wrong_rows(self):
        self.raises(BadBook("rows"), Book)
        for value in ANY + [[1, 1], [0], [31], [1, 2, 1], ["1"], [True], [1, None], [[1]], (0,), [1, -1], [10 ** 39]]:
            right = isinstance(value, (list, tuple)) and all(type(part) is int and 1 <= part <= 30 for part in value)
            if right and len(set(value)) == len(value):
                Book(value)
            else:
                self.raises(BadBook(0), Book, value)
                self.raises(BadBook(1), Book, [1], value)
                self.raises(BadBook(1), Book, [1], value, [0])
                # Too many rows are told ahead of wrong ones.
                self.raises(BadBook("rows"), Book, *[value] * 61)
        self.raises(BadBook("rows"), Book, *[[1]] * 61)
        self.raises(BadBook(59), Book, *[[1]] * 59, [0])
        self.same(Book(*[[1]] * 60).rows, ((1,),))
        self.same(Book(range_row()).rows, (tuple(range(1, 31)),))
        self.assertEqual(len(Book(*[[1]] * 59, [2]).rows), 60)

    def test_later_changes(self):
        row = [2, 3]
        book = Book(row)
        row.append(4)
        self.assertEqual(book.rows, ((2, 3),))

    def test_fewest_rows(self):
        for book, rows, _ in books(1, 300):
            plain = next(many for many in range(1, len(rows) + 1)
                         if all(set(rows[day % len(rows)]) == set(rows[day % many]) for day in range(len(rows) * many)))
            self.same(book.rows, tuple(tuple(sorted(row)) for row in rows[:plain]))
        self.same(Book([1], [], [1], []).rows, ((1,), ()))
        self.same(Book([1], [], [1]).rows, ((1,), (), (1,)))
        self.same(Book([2, 1], [1, 2]).rows, ((1, 2),))

    def test_lets(self):
        for book, rows, _ in books(2, 100):
            self.assertEqual(let_by(book), {(day, nights) for day in range(-3, 30) for nights in range(1, 8) if is_let(rows, day, nights)})
        book = Book([1], [2, 30], [3])
        self.assertIs(book(Stay(1, 31)), True)
        self.assertIs(book(Stay(-2, 28)), True)
        self.assertIs(book(Stay(1, 32)), False)
        self.assertIs(book(Stay(3 * FAR, 3 * FAR + 1)), True)
        self.assertIs(book(Stay(-3 * FAR + 1, -3 * FAR + 3)), True)
        self.assertIs(book(Stay(0, FAR)), False)
        for value in ANY:
            if not isinstance(value, Stay):
                self.raises(BadStay("stay"), book, value)
                self.raises(BadStay("stay"), book.row_for, value)
                self.raises(BadStay("stay"), book.fills, value)

    def test_let_stays(self):
        for book, rows, rng in books(3, 100):
            first = rng.randint(-9, 9)
            after = first + rng.randint(1, 12)
            told = [(stay.first, stay.after) for stay in book.let_stays(first, after)]
            self.assertEqual(told, [(day, day + nights) for day in range(first, after) for nights in range(1, after - day + 1)
                                    if is_let(rows, day, nights)])
        self.assertEqual(list(Book.none().let_stays(0, 400)), [])
        self.assertEqual(list(Book([30]).let_stays(FAR, FAR + 31)), [Stay(FAR, FAR + 30), Stay(FAR + 1, FAR + 31)])

    def test_let_stays_errors(self):
        book = Book([1])
        for value in ANY:
            if type(value) is not int:
                self.raises(BadStay("first"), lambda: list(book.let_stays(value, 5)))
                self.raises(BadStay("after"), lambda: list(book.let_stays(0, value)))
        self.raises(BadStay("after"), lambda: next(book.let_stays(5, 5)))
        self.raises(BadStay("after"), lambda: next(book.let_stays(5, -5)))
        self.assertEqual(len(list(book.let_stays(-200, 200))), 400)
        self.raises(TooMany("days", 400), lambda: next(book.let_stays(-200, 201)))
        self.raises(TooMany("days", 400), lambda: next(Book.none().let_stays(0, FAR)))

    def test_rows_for_stays(self):
        filled = 0
        for book, rows, rng in books(4, 150):
            for _ in range(4):
                first = rng.randint(-9, 9)
                stay = Stay(first, first + rng.randint(1, 9))
                ways = plain_ways(rows, stay.first, stay.after)
                told = book.row_for(stay)
                self.assertIs(book.fills(stay), bool(ways))
                if told is None:
                    self.assertEqual(ways, [])
                else:
                    self.assertIs(type(told), tuple)
                    self.assertIn((stay.first,) + tuple(one.after for one in told), ways)
                    self.assertEqual([one.first for one in told[1:]], [one.after for one in told[:-1]])
                    self.assertEqual(book.row_for(stay), told)
                    filled += 1
        self.assertGreater(filled, 100)

    def test_2000_nights_and_2001(self):
        book = Book([7, 4])
        for first in (0, -1000, FAR):
            told = book.row_for(Stay(first, first + 2000))
            self.assertEqual((told[0].first, told[-1].after, sum(one.nights for one in told)), (first, first + 2000, 2000))
            self.assertTrue(all(book(one) for one in told))
            self.assertIs(book.fills(Stay(first, first + 2000)), True)
            self.raises(TooMany("nights", 2000), book.row_for, Stay(first, first + 2001))
            self.raises(TooMany("nights", 2000), book.fills, Stay(first, first + 2001))
        self.assertIs(Book([2]).fills(Stay(0, 1999)), False)
        self.raises(TooMany("nights", 2000), Book.none().fills, Stay(0, FAR))

    def test_both(self):
        rng = random.Random(5)
        sure = 0
        for one, _, _ in books(6, 60):
            other = Book(*some_rows(rng)) if rng.random() < 0.7 else Book(*[row[:2] for row in one.rows])
            days = (0, 36)
            let, let_too = let_by(one, *days), let_by(other, *days)
            self.assertEqual(let_by(one | other, *days), let | let_too)
            self.assertEqual(let_by(one & other, *days), let & let_too)
            self.assertIs(one <= other, let <= let_too)
            self.assertIs(one == other, let == let_too)
            self.assertIs(one & other <= one, True)
            self.assertIs(one <= one | other, True)
            self.assertEqual((one | other).rows, Book(*[sorted({*a, *b}) for a, b in both_rows(one, other)][:60]).rows)
            sure += let <= let_too
        self.assertGreater(sure, 5)

    def test_both_errors(self):
        for value in ANY:
            if not isinstance(value, Book):
                self.raises(BadBook("other"), lambda: Book([1]) | value)
                self.raises(BadBook("other"), lambda: Book([1]) & value)
                self.raises(BadBook("other"), lambda: Book([1]) <= value)
                self.assertIs(Book([1]) == value, False)

    def test_60_rows_and_more(self):
        # 4 * 15 rows are needed, 7 * 9 are too many; where fewer tell the same they are not.
        four, fifteen, seven, nine = [Book([1], *[[2]] * (many - 1)) for many in (4, 15, 7, 9)]
        self.assertEqual(len((four | fifteen).rows), 60)
        self.assertEqual(len((four & fifteen).rows), 60)
        self.raises(TooMany("rows", 60), lambda: seven | nine)
        self.raises(TooMany("rows", 60), lambda: seven & nine)
        self.assertIs(seven <= nine, False)
        self.assertIs(seven <= Book([1, 2]), True)
        self.assertEqual(seven | Book([1, 2]), Book([1, 2]))
        apart = Book([3], *[[4]] * 8)
        self.assertEqual(seven & apart, Book.none())
        self.raises(TooMany("rows", 60), lambda: seven | apart)
        # 59 rows and 60 have no common ones: 3,540 are looked at.
        self.raises(TooMany("rows", 60), lambda: Book([1], *[[2]] * 58) | Book([1], *[[2]] * 59))
        self.assertIs(Book([1], *[[2]] * 58) <= Book([1], *[[2]] * 59), False)

    def test_texts(self):
        for book in (Book([3, 2]), Book([1], []), Book.none(), Book([], [30]), Book([1, 30], [], [5, 7, 9]), Book([2], [2], [1])):
            many = len(str(book).split(" "))
            ends = [at for at in range(1, many) if str(book).split(" ")[at - 1] != "/"]
            self.read_of(Book.read, book, ends, ("?", "", "Self", "-1", "00", "a\n", "31", "0"))
        self.same([str(Book([3, 2])), str(Book([1], [], [1], [])), str(Book([], [1, 10]))], ["2 3", "1 / -", "- / 1 10"])
        self.assertEqual(Book.read(text="2 3 / -"), Book([2, 3], []))

    def test_wrong_texts(self):
        self.read_wrong(Book.read, {
            "": 0, "2 /": 2, "2 / ": 2, "/ 2": 0, "2 2": 1, "3 2": 1, "2 31": 1, "0": 0, "- 2": 1, "- -": 1, "2 -": 1, "2 / 3 3": 3, "2 // 3": 1,
            "2 / / 3": 2, "02": 0, "2 , 3": 1, "2 / 31": 2, " 2": 0, "2 ": 1, "2  3": 1, "2 3 / 4 - / 1": 4,
            # More rows than are needed.
            "2 / 2": 0, "- / -": 0, "1 / - / 1 / -": 0, "1 / 2 / 1 / 2": 0,
            # A word that cannot stand is told ahead of this.
            "2 / 2 / x": 4, "2 / 2 /": 4,
        })
        sixty = " / ".join(["1"] * 59 + ["2"])
        self.assertEqual(len(Book.read(sixty).rows), 60)
        self.raises(BadText(0, 119), Book.read, sixty + " / 2")
        self.raises(BadText(0, 119), Book.read, sixty + " / 2 / x")
        self.raises(BadText(0, 119), Book.read, sixty + " 2")
        self.raises(BadText(0, 0), Book.read, " / ".join(["1"] * 60))
        self.doubled(Book.read, "2 3 / -", {2: 3})
        self.exchanged(Book.read, "2 3 / -", {0: 1, 1: 3, 2: 2})
        self.left_out(Book.read, "2 3 / -", {0: None, 1: None, 2: 2})


def range_row():
    """The longest row."""
    return list(range(1, 31))


def both_rows(one, other):
    """The pairs of the rows of two books, day by day, as often as they repeat."""
    many = len(one.rows) * len(other.rows)
    return [(one.rows[day % len(one.rows)], other.rows[day % len(other.rows)]) for day in range(many)]


if __name__ == "__main__":
    unittest.main()
