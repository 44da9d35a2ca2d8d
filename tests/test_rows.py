"""Rows: made, followed, joined, broken or let, all rows of a number of events, written, read and refused."""

import inspect
import itertools
import random
import unittest

from stayhouse.counts import Counts
from stayhouse.errors import BadName, BadNumber, BadPromise, BadRow, BadText, TooMany
from stayhouse.limits import Limit, YearLimit
from stayhouse.promises import Promise
from stayhouse.rows import Row, rows

from helpers import ANY, StayTest, is_any_integer, is_any_name
from test_promises import MANY, is_kept, plain_wishes, some_promises


def some_rows(number):
    """Rows by chance, with what is true of them: events, comings, who is there."""
    chance = random.Random(3)
    for _ in range(number):
        events, comings, there = [], [], []
        for _ in range(chance.randint(0, 9)):
            if there and chance.random() < 0.5:
                gone = chance.choice(there)
                there.remove(gone)
                events.append(gone)
            else:
                there.append(len(comings))
                comings.append(chance.choice("abc"))
                events.append(comings[-1])
        yield events, comings, there


def counted(names):
    return Counts.of({name: names.count(name) for name in names})


def plain_broken(events, promise):
    """The first event behind which a row is not let, by counting anew behind each event."""
    wishes = plain_wishes(promise)
    for at in range(len(events)):
        comings = [event for event in events[:at + 1] if isinstance(event, str)]
        gone = [event for event in events[:at + 1] if not isinstance(event, str)]
        there = [name for number, name in enumerate(comings) if number not in gone]
        standing, year = [{name: told.count(name) for name in "abc"} for told in (there, comings)]
        if not set(comings) <= set(wishes) or not is_kept(promise.limits, standing, year):
            return at
    return None


def plain_rows(promise, many):
    """All let rows of so many events, by trying each event behind each row."""
    found = [[]]
    for _ in range(many):
        further = []
        for events in found:
            comings = [event for event in events if isinstance(event, str)]
            for event in list("abc") + list(range(len(comings))):
                if event not in events or isinstance(event, str):
                    if plain_broken(events + [event], promise) is None:
                        further.append(events + [event])
        found = further
    return [tuple(events) for events in found]


class MadeTest(StayTest):
    def test_against_plain_counting(self):
        for events, comings, there in some_rows(300):
            for row in (Row(*events), Row.of(events), Row.of(events=tuple(events))):
                self.same([row.events, row.comings, row.there], [tuple(events), tuple(comings), tuple(there)])
                self.assertEqual(row.standing, counted([comings[number] for number in there]))
                self.assertEqual(row.year, counted(comings))
                self.same([list(row), len(row), bool(row)], [events, len(events), bool(events)])

    def test_wrong_events(self):
        for value in ANY:
            if is_any_name(value):
                self.assertEqual(Row(value).comings, (value,))
            else:
                self.raises(BadRow(0), Row, value)
                self.raises(BadRow(0), Row, value, None)
            if not is_any_name(value) and not is_any_integer(value, 0, 0):
                self.raises(BadRow(1), Row, "a", value)
                self.raises(BadRow(1), Row.of, ["a", value, None])
                self.raises(BadRow(3), Row, "a", 0, "a", value if value != 1 or value is True else 0)
            if not isinstance(value, (list, tuple)):
                self.raises(BadRow("events"), Row.of, value)

    def test_who_goes(self):
        self.raises(BadRow(2), Row, "a", 0, 0)
        self.raises(BadRow(1), Row, "a", 1, "b")
        self.raises(BadRow(0), Row, 0, "a")
        self.raises(BadRow(1), Row, "a", -1)
        self.raises(BadRow(2), Row, "a", "b", True)
        self.raises(BadRow(2), Row, "a", "b", "self")
        self.assertEqual(Row("a", "b", 1, 0).there, ())

    def test_most_events(self):
        events = ["a"] * 10000 + list(range(10000))
        row = Row.of(events)
        self.same([len(row), row.there, row.standing, row.year], [20000, (), Counts(), Counts(a=10000)])
        self.raises(TooMany("events", 20000), Row.of, events + ["a"])
        self.raises(TooMany("events", 20000), Row, *events, "a")
        self.raises(TooMany("events", 20000), lambda: row + "a")
        self.raises(BadRow(20000), Row.of, events + [0])
        self.raises(BadRow(20000), lambda: row + 10000)
        self.raises(BadRow(3), Row.of, ["a"] * 3 + [3] + ["a"] * 19997)

    def test_later_changes(self):
        events = ["a"]
        row = Row.of(events)
        events.append("b")
        self.assertEqual(row, Row("a"))

    def test_equality(self):
        self.assertEqual(Row("a", 0), Row("a", 0))
        self.assertNotEqual(Row("a", 0), Row("a"))
        for value in ANY:
            self.assertIs(Row("b", 0) == value, False)
        self.assertIs(Row("a") == ("a",), False)
        self.assertIs(Row() == (), False)


class JoinedTest(StayTest):
    def test_one_more(self):
        row = Row("a", "b", 0)
        self.assertEqual(row + "c", Row("a", "b", 0, "c"))
        self.assertEqual(row + 1, Row("a", "b", 0, 1))
        for value in ANY:
            if not is_any_name(value) and not is_any_integer(value, 1, 1):
                self.raises(BadRow(3), lambda: row + value)
        self.assertEqual(row, Row("a", "b", 0))

    def test_front(self):
        for events, _, _ in some_rows(60):
            row = Row(*events)
            for many in range(len(events) + 1):
                self.assertEqual(row.front(many), Row(*events[:many]))
            for value in ANY + [len(events) + 1]:
                if not is_any_integer(value, 0, len(events)):
                    self.raises(BadNumber(value), row.front, value)
        self.assertEqual(Row("a").front(many=0), Row())

    def test_only(self):
        for events, comings, _ in some_rows(120):
            for names in ((), ("a",), ("c", "a"), ("b", "b"), ("a", "b", "c", "d"), ("zoo",)):
                numbers = [number for number, name in enumerate(comings) if name in names]
                kept = [event for event in events if event in names or event in numbers]
                anew = [event if isinstance(event, str) else numbers.index(event) for event in kept]
                self.assertEqual(Row(*events).only(*names), Row(*anew))
        for value in ANY:
            if not is_any_name(value):
                self.raises(BadName(value), Row("a").only, value)
                self.raises(BadName(value), Row().only, "a", value, None)


class LetTest(StayTest):
    def test_against_plain_counting(self):
        for promise in some_promises(40):
            for events, _, _ in some_rows(60):
                row, at = Row(*events), plain_broken(events, promise)
                self.same([row.broken(promise), row.is_let(promise)], [at, at is None])

    def test_edges(self):
        promise = Promise(Limit(1, a=1), YearLimit(2, a=1))
        self.same([Row().broken(promise), Row().is_let(Promise()), Row("a").broken(Promise())], [None, True, 0])
        self.same(Row("a", 0, "a", 1, "a").broken(promise), 4)
        self.same(Row("a", 0, "b").broken(promise=promise), 2)
        self.same(Row("a", 0).is_let(promise=promise), True)

    def test_wrong_promise(self):
        for value in ANY:
            if not isinstance(value, Promise):
                self.raises(BadPromise("promise"), Row().broken, value)
                self.raises(BadPromise("promise"), Row("a").is_let, value)
                self.raises(BadPromise("promise"), lambda: next(rows(value, None)))


class AllRowsTest(StayTest):
    def test_against_plain_trying(self):
        for promise in some_promises(40):
            for many in range(5):
                found = list(rows(promise, many))
                self.assertEqual([row.events for row in found], plain_rows(promise, many), str(promise))
                self.assertTrue(all(type(row) is Row for row in found))

    def test_order(self):
        promise = Promise(Limit(2, a=1, b=1), YearLimit(2, b=1))
        self.assertEqual([str(row) for row in rows(promise, 2)], ["a a", "a b", "a 0", "b a", "b b", "b 0"])
        self.assertEqual([str(row) for row in rows(Promise(Limit(3, a=1)), 4)],
                         ["a a a 0", "a a a 1", "a a a 2", "a a 0 a", "a a 0 1", "a a 1 a", "a a 1 0",
                          "a 0 a a", "a 0 a 1"])

    def test_none_and_twelve(self):
        one = Promise(Limit(1, a=1))
        self.assertEqual(list(rows(promise=one, many=0)), [Row()])
        self.assertEqual(list(rows(Promise(), 0)), [Row()])
        self.assertEqual(list(rows(Promise(), 1)), [])
        self.assertEqual([str(row) for row in rows(one, 12)], ["a 0 a 1 a 2 a 3 a 4 a 5"])
        self.assertEqual(len(list(rows(Promise(Limit(1, a=1, b=1)), 12))), 64)
        self.assertEqual(str(next(rows(Promise(Limit(10 ** 30, a=1, b=1)), 12))), "a a a a a a a a a a a a")

    def test_year_is_used_up(self):
        promise = Promise(Limit(2, a=1, b=1), YearLimit(5, a=1, b=1))
        self.assertEqual(list(rows(promise, 11)), [])
        self.assertEqual(list(rows(promise, 12)), [])
        tens = list(rows(promise, 10))
        self.assertEqual([row.year.total for row in tens], [5] * len(tens))
        wide = Promise(Limit.of(3, {name: 1 for name in MANY[:100]}), YearLimit.of(5, {name: 1 for name in MANY[:100]}))
        self.assertEqual(list(rows(wide, 12)), [])
        self.assertEqual(str(next(rows(wide, 10))), "aa aa aa 0 aa 1 aa 2 3 4")

    def test_wrong_number(self):
        for value in ANY + [13]:
            if not is_any_integer(value, 0, 12):
                self.raises(BadNumber(value), lambda: next(rows(Promise(), value)))
        self.assertEqual(list(inspect.signature(rows).parameters), ["promise", "many"])

    def test_lazily(self):
        told = rows(Promise(Limit.of(9, {name: 1 for name in "abcdefgh"})), 12)
        self.assertEqual(len(list(itertools.islice(told, 100))), 100)


class TextsTest(StayTest):
    def test_written_and_read(self):
        for events, _, _ in some_rows(60):
            row = Row(*events)
            self.assertEqual(str(row), " ".join(str(event) for event in events) or "-")
            if events:
                self.read_of(Row.read, row, range(len(events)))
        self.read_of(Row.read, Row())
        self.assertEqual(Row.read(text="a 0"), Row("a", 0))

    def test_wrong_words(self):
        self.read_wrong(Row.read, {
            "": 0, "- a": 1, "- -": 1, "- ": 1, "a -": 1, "0": 0, "a 1": 1, "a 0 0": 2, "a 00": 1, "a -0": 1, "a b 2": 2, "self": 0,
            "a self": 1, "a  0": 1, "a 0 ": 2, "a +0": 1, "a b 01": 2, "a None": 1, "a\n0": 0, "abcdefghi": 0, "a ; 0": 1,
        })

    def test_changed_texts(self):
        text = "a b 1 0"
        self.doubled(Row.read, text, {0: None, 1: None})
        self.exchanged(Row.read, text, {0: None, 1: 1, 2: None})
        self.left_out(Row.read, text, {0: 1, 1: 1, 2: None, 3: None})

    def test_most_events(self):
        words = ["a"] * 20000
        self.assertEqual(len(Row.read(" ".join(words))), 20000)
        self.raises(BadText(0, 20000), Row.read, " ".join(words + ["a"]))
        self.raises(BadText(0, 20000), Row.read, " ".join(words + ["?"]))
        self.raises(BadText(0, 19999), Row.read, " ".join(words[:-1] + ["?", "a"]))


if __name__ == "__main__":
    unittest.main()
