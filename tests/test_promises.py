"""Promises: what they let, keep, count, and what comes about, against a plain trying of all counts and events."""

import inspect
import itertools
import random
import unittest

from stayhouse.counts import Counts
from stayhouse.errors import BadCounts, BadPromise, BadText, TooMany
from stayhouse.limits import Limit, YearLimit
from stayhouse.promises import Promise, greatest

from helpers import ANY, StayTest

MANY = [one + other for one in "abcdefghij" for other in "abcdefghijk"]


def some_promises(number, most_bound=3):
    """Small promises of up to three wishes."""
    chance = random.Random(7)
    found = []
    for _ in range(number):
        limits = []
        for _ in range(chance.randint(0, 4)):
            kind = chance.choice([Limit, Limit, YearLimit])
            limits.append(kind.of(chance.randint(0, most_bound), {name: chance.randint(0, 2) for name in "abc"}))
        found.append(Promise.of(limits))
    return found


def is_kept(limits, standing, year):
    """A plain look at dicts: whether the standing keeps the limits at once, the year those in a year."""
    for limit in limits:
        counts = year if limit.YEARLY else standing
        if sum(limit.weights[name] * counts[name] for name in counts) > limit.bound:
            return False
    return True


def plain_wishes(promise):
    return sorted({name for limit in promise.limits if not limit.YEARLY for name in limit.weights.names})


def states(promise, most):
    """All pairs (standing, year), tuples by a, b, c, that let rows lead to, with at most so many comings."""
    wishes = plain_wishes(promise)
    found = {((0, 0, 0), (0, 0, 0))}
    waiting = list(found)
    while waiting:
        standing, year = waiting.pop()
        further = []
        for at, name in enumerate("abc"):
            one_more = lambda numbers: numbers[:at] + (numbers[at] + 1,) + numbers[at + 1:]
            if name in wishes and sum(year) < most:
                told = [dict(zip("abc", one_more(numbers))) for numbers in (standing, year)]
                if is_kept(promise.limits, *told):
                    further.append((one_more(standing), one_more(year)))
            if standing[at]:
                further.append((standing[:at] + (standing[at] - 1,) + standing[at + 1:], year))
        for state in further:
            if state not in found:
                found.add(state)
                waiting.append(state)
    return found


def lets_all_plainly(one, other, most):
    """Whether other lets each row that one lets, as far as rows of so many comings tell."""
    wishes = plain_wishes(other)
    for standing, year in states(one, most):
        told = [dict(zip("abc", numbers)) for numbers in (standing, year)]
        if not all(name in wishes for name in "abc" if told[1][name]) or not is_kept(other.limits, *told):
            return False
    return True


def by(counts, names):
    return tuple(counts[name] for name in names)


class MadeTest(StayTest):
    def test_ordinary(self):
        limits = (Limit(4, b=1, a=2), YearLimit(6, b=3, x=1), Limit(1, c=0), Limit(0, d=1))
        for promise in (Promise(*limits), Promise.of(list(limits)), Promise.of(limits=limits)):
            self.same([promise.limits, promise.wishes, promise.counted, len(promise), list(promise), bool(promise)],
                      [limits, ("a", "b", "d"), ("b",), 4, list(limits), True])
        for promise in (Promise(), Promise.of([]), Promise.of(())):
            self.same([promise.limits, promise.wishes, promise.counted, len(promise), list(promise), bool(promise), str(promise)],
                      [(), (), (), 0, [], False, "-"])
        self.assertEqual(list(inspect.signature(Promise.keeps).parameters)[1:], ["standing", "year"])
        self.assertEqual(list(inspect.signature(Promise.can_come).parameters)[1:], ["name"])
        self.assertEqual(list(inspect.signature(greatest).parameters), ["promise", "prices"])

    def test_wrong_limits(self):
        right = Limit(1, a=1)
        for value in ANY:
            if not isinstance(value, Limit):
                self.raises(BadPromise(0), Promise, value)
                self.raises(BadPromise(2), Promise, right, right, value, None)
                self.raises(BadPromise(20), Promise, *[right] * 20, value)
                self.raises(BadPromise(25), Promise, *[right] * 25, value)
                self.raises(BadPromise(1), Promise.of, [right, value])
            if not isinstance(value, (list, tuple)):
                self.raises(BadPromise("limits"), Promise.of, value)

    def test_most_limits(self):
        right = Limit(1, a=1)
        self.assertEqual(len(Promise(*[right] * 20)), 20)
        self.raises(TooMany("limits", 20), Promise, *[right] * 21)
        self.raises(TooMany("limits", 20), Promise.of, [right] * 30)

    def test_most_wishes(self):
        names = MANY[:101]
        self.assertEqual(len(Promise(Limit.of(1, {name: 1 for name in names[:100]})).wishes), 100)
        self.raises(TooMany("wishes", 100), Promise, Limit.of(1, {name: 1 for name in names}))
        halves = [Limit.of(1, {name: 1 for name in part}) for part in (names[:60], names[50:])]
        self.raises(TooMany("wishes", 100), Promise, *halves)
        self.raises(TooMany("limits", 20), Promise, *halves * 11)
        # What is weighed in a year alone is no wish.
        self.assertEqual(Promise(YearLimit.of(1, {name: 1 for name in names})).wishes, ())

    def test_later_changes(self):
        limits = [Limit(1, a=1)]
        promise = Promise.of(limits)
        limits.append(Limit(1, b=1))
        self.assertEqual(promise.limits, (Limit(1, a=1),))

    def test_contains(self):
        promise = Promise(Limit(2, a=1), YearLimit(1))
        for value in ANY:
            self.assertIs(value in promise, value == Limit(2, a=1) and isinstance(value, Limit))
        self.assertIs(YearLimit(1) in promise, True)
        self.assertIs(Limit(1) in promise, False)
        self.assertIs(YearLimit(2, a=1) in promise, False)

    def test_and(self):
        one, two, three = Limit(1, a=1), YearLimit(1, a=1), Limit(1, b=1)
        self.assertEqual((Promise(one, one, two) & Promise(three, one, three)).limits, (one, one, two, three, three))
        self.assertEqual((Promise(one) & Promise(one, two)).limits, (one, two))
        self.assertEqual((Promise() & Promise(one, one)).limits, (one, one))
        self.assertEqual((Promise(one, one) & Promise()).limits, (one, one))
        for value in ANY:
            if not isinstance(value, Promise):
                self.raises(BadPromise("other"), lambda: Promise(one) & value)
                self.raises(BadPromise("other"), lambda: Promise(one) <= value)
        many = [Limit(bound, a=1) for bound in range(21)]
        self.assertEqual(len(Promise.of(many[:10]) & Promise.of(many[5:20])), 20)
        self.raises(TooMany("limits", 20), lambda: Promise.of(many[:10]) & Promise.of(many[5:21]))
        parts = [Promise(Limit.of(1, {name: 1 for name in part})) for part in (MANY[:60], MANY[50:101])]
        self.raises(TooMany("wishes", 100), lambda: parts[0] & parts[1])

    def test_equality(self):
        one, two = Limit(1, a=1), YearLimit(1, a=1)
        self.assertEqual(Promise(one, two), Promise(one, two))
        self.assertNotEqual(Promise(one, two), Promise(two, one))
        self.assertNotEqual(Promise(one), Promise(one, one))
        self.assertNotEqual(Promise(one), Promise(two))
        for value in ANY:
            self.assertIs(Promise(one, two) == value, False)
        self.assertIs(Promise() == (), False)


class LookedAtTest(StayTest):
    def test_keeps(self):
        for promise in some_promises(60):
            wishes = plain_wishes(promise)
            for numbers in itertools.product(range(3), repeat=3):
                for other in ((0, 0, 0), (0, 1, 2), (3, 0, 0), numbers):
                    here, there = [dict(zip("abc", tuple_of)) for tuple_of in (numbers, other)]
                    known = all(name in wishes for name in "abc" if here[name] or there[name])
                    self.assertIs(promise.keeps(Counts.of(here), Counts.of(there)),
                                  known and is_kept(promise.limits, here, there))

    def test_keeps_other_names(self):
        promise = Promise(Limit(2, a=1), YearLimit(2, b=1))
        self.same([promise.keeps(Counts(a=2), Counts(a=9)), promise.keeps(Counts(a=3), Counts()), promise.keeps(Counts(b=1), Counts()),
                   promise.keeps(Counts(), Counts(b=1)), promise.keeps(standing=Counts(), year=Counts())],
                  [True, False, False, False, True])
        for value in ANY:
            if not isinstance(value, Counts):
                self.raises(BadCounts("standing"), promise.keeps, value, Counts())
                self.raises(BadCounts("standing"), promise.keeps, value, value)
                self.raises(BadCounts("year"), promise.keeps, Counts(b=1), value)

    def test_can_come(self):
        promise = Promise(Limit(2, a=1, b=2, c=3), YearLimit(1, a=1, b=2, d=1), Limit(0, e=1))
        self.same([promise.can_come(name) for name in ("a", "b", "c", "d", "e", "f")], [True] + [False] * 5)
        for value in ANY:
            self.assertIs(promise.can_come(value), value == "a")
        self.assertIs(Promise(Limit(1, a=1)).can_come(name="a"), True)


class ComesAboutTest(StayTest):
    def test_against_plain_trying(self):
        for promise in some_promises(80):
            found = states(promise, 7)
            wishes, counted = promise.wishes, promise.counted
            with self.subTest(promise=str(promise)):
                self.assertEqual(list(wishes), plain_wishes(promise))
                standings = sorted({tuple(numbers["abc".index(name)] for name in wishes) for numbers, _ in found})
                self.assertEqual([by(one, wishes) for one in promise.standings()], standings)
                years = sorted({tuple(numbers["abc".index(name)] for name in counted) for _, numbers in found})
                self.assertEqual([by(one, counted) for one in promise.years()], years)
                self.assertEqual([by(one, wishes) for one in promise.peaks()], tops(standings))
                self.assertEqual([by(one, counted) for one in promise.year_peaks()], tops(years))
                self.assertTrue(all(type(one) is Counts for one in list(promise.standings()) + list(promise.years())))
                for prices in (Counts(), Counts(a=3, b=2, c=1, z=9), Counts(a=1, b=1, c=1), Counts(c=10 ** 30)):
                    totals = [sum(prices[name] * number for name, number in zip(wishes, numbers)) for numbers in standings]
                    best = Counts.of(dict(zip(wishes, standings[totals.index(max(totals))])))
                    self.same(greatest(promise, prices), (max(totals), best))

    def test_none_can_come(self):
        for promise in (Promise(), Promise(Limit(0, a=1)), Promise(Limit(2, a=1), YearLimit(0, a=1)), Promise(YearLimit(3, a=1))):
            self.assertEqual(list(promise.standings()), [Counts()])
            self.assertEqual(list(promise.years()), [Counts()])
            self.same([promise.peaks(), promise.year_peaks()], [(Counts(),), (Counts(),)])
            self.same(greatest(promise, Counts(a=1)), (0, Counts()))

    def test_most_standings(self):
        self.assertEqual(len(list(Promise(Limit(4999, a=1)).standings())), 5000)
        self.assertEqual(Promise(Limit(4999, a=1)).peaks(), (Counts(a=4999),))
        promise = Promise(Limit(5000, a=1))
        told = promise.standings()
        self.assertEqual([next(told)["a"] for _ in range(5000)], list(range(5000)))
        self.raises(TooMany("standings", 5000), next, told)
        self.raises(TooMany("standings", 5000), promise.peaks)
        self.raises(TooMany("standings", 5000), greatest, promise, Counts())
        self.assertEqual(promise.year_peaks(), (Counts(),))
        large = Promise(Limit(10 ** 30, a=1, b=1))
        self.assertEqual(str(next(large.standings())), "-")
        self.raises(TooMany("standings", 5000), large.peaks)

    def test_most_years(self):
        both = lambda bound: Promise(Limit(1, a=1), YearLimit(bound, a=1))
        self.assertEqual(len(list(both(4999).years())), 5000)
        self.assertEqual(both(4999).year_peaks(), (Counts(a=4999),))
        told = both(5000).years()
        self.assertEqual([next(told)["a"] for _ in range(5000)], list(range(5000)))
        self.raises(TooMany("years", 5000), next, told)
        self.raises(TooMany("years", 5000), both(5000).year_peaks)
        self.assertEqual(both(5000).peaks(), (Counts(a=1),))

    def test_hundred_wishes(self):
        promise = Promise(Limit.of(1, {name: 1 for name in MANY[:100]}))
        self.assertEqual(len(promise.peaks()), 100)
        self.assertEqual([one.names for one in promise.peaks()], [(name,) for name in sorted(MANY[:100], reverse=True)])

    def test_wrong_arguments_of_greatest(self):
        for value in ANY:
            if not isinstance(value, Promise):
                self.raises(BadPromise("promise"), greatest, value, None)
            if not isinstance(value, Counts):
                self.raises(BadCounts("prices"), greatest, Promise(Limit(5000, a=1)), value)


def tops(numbers):
    """Those of the tuples of numbers than which no other one is greater."""
    return [one for one in numbers
            if not any(one != other and all(a <= b for a, b in zip(one, other)) for other in numbers)]


class ComparedTest(StayTest):
    def test_against_plain_trying(self):
        promises = some_promises(45, 2)
        for one, other in itertools.product(promises, repeat=2):
            self.assertIs(one <= other, lets_all_plainly(one, other, 4), f"{one} <= {other}")

    def test_needless_against_plain_trying(self):
        found = {}
        for promise in some_promises(120, 2):
            expected = []
            for at in range(len(promise)):
                rest = Promise.of(promise.limits[:at] + promise.limits[at + 1:])
                if lets_all_plainly(promise, rest, 4) and lets_all_plainly(rest, promise, 4):
                    expected.append(at)
            self.same(promise.needless(), tuple(expected))
            found[len(expected)] = True
        self.assertTrue(set(found) >= {0, 1, 2})

    def test_what_is_not_counted(self):
        one = Promise(Limit(2, a=1))
        self.assertIs(one <= Promise(Limit(2, a=1), YearLimit(10 ** 30, a=1)), False)
        self.assertIs(Promise(Limit(2, a=1), YearLimit(9, a=1)) <= one, True)
        self.assertIs(Promise(Limit(2, a=1), YearLimit(9, a=1)) <= Promise(Limit(2, a=1), YearLimit(9, a=1)), True)
        self.assertIs(Promise(Limit(2, a=1), YearLimit(9, a=1)) <= Promise(Limit(2, a=1), YearLimit(8, a=1)), False)
        # A standing is a year, too: three never come.
        self.assertIs(Promise(Limit(9, a=1), YearLimit(2, a=1)) <= Promise(Limit(2, a=1)), True)
        # Who cannot come need not be known.
        self.assertIs(Promise(Limit(2, a=1, b=3)) <= one, True)

    def test_most(self):
        wide, long = Promise(Limit(5000, a=1)), Promise(Limit(1, a=1), YearLimit(5000, a=1))
        both = Promise(Limit(5000, b=1), Limit(1, a=1), YearLimit(5000, a=1))
        few = Promise(Limit(1, a=1))
        for other in (few, wide, Promise()):
            self.raises(TooMany("standings", 5000), lambda: wide <= other)
            self.raises(TooMany("standings", 5000), lambda: both <= other)
            self.raises(TooMany("years", 5000), lambda: long <= other)
        self.assertIs(few <= wide, True)
        self.assertIs(few <= long, False)

    def test_most_of_needless(self):
        self.raises(TooMany("standings", 5000), Promise(Limit(5000, a=1)).needless)
        self.raises(TooMany("years", 5000), Promise(Limit(1, a=1), YearLimit(5000, a=1)).needless)
        # Without the first limit there are too many standings, without the second one too many years.
        self.raises(TooMany("standings", 5000), Promise(Limit(1, a=1), Limit(5000, a=1)).needless)
        self.raises(TooMany("standings", 5000), Promise(Limit(5000, a=1), Limit(1, a=1)).needless)
        self.raises(TooMany("years", 5000), Promise(Limit(1, a=1), YearLimit(3, a=1), YearLimit(5000, a=1)).needless)
        self.same(Promise().needless(), ())
        self.same(Promise(Limit(4999, a=1)).needless(), ())
        self.same(Promise(Limit(3), YearLimit(0), Limit(1, a=1)).needless(), (0, 1))


class TextsTest(StayTest):
    def test_written_and_read(self):
        for promise, text, longer in (
            (Promise(), "-", ()), (Promise(Limit(1)), "once 1 : -", ()),
            (Promise(Limit(2, a=1), YearLimit(3, b=2, a=1)), "once 2 : a 1 ; year 3 : a 1 b 2", (5, 11)),
            (Promise(YearLimit(0), Limit(2, b=1)), "year 0 : - ; once 2 : b 1", (4,)),
        ):
            self.assertEqual(str(promise), text)
            self.read_of(Promise.read, promise, longer)

    def test_wrong_words(self):
        self.read_wrong(Promise.read, {
            "": 0, "- -": 1, "- ; once 2 : a 1": 1, "once 2 : a 1 ;": 6, "once 2 : a 1 ; -": 6, "once 2 : a 1 once 2 : a 1": 7,
            "once 2 : ; once 2 : a 1": 3, "once 2 : a ; once 2 : a 1": 4, "; once 2 : a 1": 0, "once 2 : - ; ; once 2 : -": 5,
            "once 2 : a 1 ; once 2 : b 1 a 1": 11, "once 2 : a 1 ; Year 2 : b 1": 6, "once 2 : a 1 , once 2 : b 1": 5,
        })

    def test_most_limits(self):
        text = " ; ".join(["once 2 : a 1"] * 20)
        self.assertEqual(len(Promise.read(text)), 20)
        self.raises(BadText(0, 119), Promise.read, text + " ; once 2 : a 1")
        self.raises(BadText(0, 119), Promise.read, text + " ;")
        self.raises(BadText(0, 119), Promise.read, text + " ; x")
        names = " ".join(f"{name} 1" for name in sorted(MANY[:101]))
        self.raises(TooMany("wishes", 100), Promise.read, f"once 2 : {names}")
        self.raises(BadText(0, 206), Promise.read, f"once 2 : {names} ; x")

    def test_changed_texts(self):
        text = "once 2 : a 1 ; year 3 : a 1 b 2"
        self.doubled(Promise.read, text)
        # `year` is a name, too: a number can stand behind it.
        self.exchanged(Promise.read, text, {5: 6})
        self.left_out(Promise.read, text, {5: 7})


if __name__ == "__main__":
    unittest.main()
