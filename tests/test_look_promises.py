"""Tops that are looked at."""

import inspect
import itertools
import random
import unittest

from stayhouse.counts import Counts
from stayhouse.errors import BadPromise, TooMany
from stayhouse.limits import Limit, YearLimit
from stayhouse.look_promises import shows_tops
from stayhouse.promises import Promise

from helpers import ANY, StayTest
from test_promises import MANY, some_promises

ONE = Promise(Limit(1, a=1), YearLimit(3, a=1))
WIDE = Promise(Limit(5000, a=1), YearLimit(5000, a=1))


class ShowsTopsTest(StayTest):
    def test_right_and_changed(self):
        for promise in some_promises(80):
            tops, years = promise.peaks(), promise.year_peaks()
            self.assertIs(shows_tops(promise, tops, years), True)
            for wrong in changed(tops, promise):
                self.assertIs(shows_tops(promise, wrong, years), wrong == tops and type(wrong) is tuple)
            for wrong in changed(years, promise):
                self.assertIs(shows_tops(promise, tops, wrong), wrong == years and type(wrong) is tuple)

    def test_any_tuple_of_counts(self):
        promise = Promise(Limit(2, a=1, b=1), Limit(1, b=1), YearLimit(2, b=1))
        tops, years = promise.peaks(), promise.year_peaks()
        counts = [Counts(a=a, b=b, c=c) for a, b, c in itertools.product(range(4), range(3), range(2))]
        for many in range(4):
            for told in itertools.permutations(counts[:14], many):
                self.assertIs(shows_tops(promise, told, years), told == tops)
                self.assertIs(shows_tops(promise, tops, told), told == years)

    def test_any_values(self):
        for value in ANY:
            if not isinstance(value, Promise):
                self.raises(BadPromise("promise"), shows_tops, value, (), ())
            self.assertIs(shows_tops(ONE, value, (Counts(a=3),)), False)
            self.assertIs(shows_tops(ONE, (Counts(a=1),), value), False)
            self.assertIs(shows_tops(ONE, (value,), (Counts(a=3),)), value == Counts(a=1))
            self.assertIs(shows_tops(ONE, (Counts(a=1), value), (Counts(a=3),)), False)
        self.assertIs(shows_tops(promise=ONE, tops=(Counts(a=1),), year_tops=(Counts(a=3),)), True)
        self.assertEqual(list(inspect.signature(shows_tops).parameters), ["promise", "tops", "year_tops"])

    def test_nobody_can_come(self):
        for promise in (Promise(), Promise(Limit(0, a=1), YearLimit(1, a=1))):
            self.assertIs(shows_tops(promise, (Counts(),), (Counts(),)), True)
            self.assertIs(shows_tops(promise, (), (Counts(),)), False)
            self.assertIs(shows_tops(promise, (Counts(),), ()), False)
            self.assertIs(shows_tops(promise, (Counts(a=1),), (Counts(),)), False)
            self.assertIs(shows_tops(promise, (Counts(), Counts()), (Counts(),)), False)

    def test_who_is_not_counted(self):
        promise = Promise(Limit(2, a=1, b=1), YearLimit(2, a=1))
        self.assertIs(shows_tops(promise, promise.peaks(), (Counts(a=2),)), True)
        self.assertIs(shows_tops(promise, promise.peaks(), (Counts(a=2, b=1),)), False)

    def test_too_many(self):
        five = (Counts(a=5000),)
        self.assertIs(shows_tops(Promise(Limit(4999, a=1)), (Counts(a=4999),), (Counts(),)), True)
        self.raises(TooMany("standings", 5000), shows_tops, WIDE, five, five)
        self.raises(TooMany("years", 5000), shows_tops, WIDE, (Counts(a=4999),), five)
        # 5,000 lie below the tops: these can be looked at.
        self.assertIs(shows_tops(WIDE, (Counts(a=4999),), (Counts(a=4999),)), False)

    def test_too_many_whatever_else_is_wrong(self):
        five = (Counts(a=5000),)
        for value in ANY:
            self.raises(TooMany("standings", 5000), shows_tops, WIDE, five, value)
            self.raises(TooMany("years", 5000), shows_tops, WIDE, value, five)
        large = Promise(Limit(10 ** 30, a=1, b=1))
        self.raises(TooMany("standings", 5000), shows_tops, large, (Counts(a=7, b=10 ** 20),), None)
        self.raises(TooMany("standings", 5000), shows_tops, large, (Counts(a=1, b=2499), Counts(a=2, b=1)), None)
        self.assertIs(shows_tops(large, (Counts(a=1, b=2498), Counts(a=2)), None), False)
        self.assertIs(shows_tops(large, (Counts(a=1, b=2499),), None), False)

    def test_not_too_many_if_the_tuple_is_wrong(self):
        both = Promise(Limit(5000, a=1, b=1), YearLimit(5000, a=1, b=1))
        right = (Counts(),)
        for told in ([Counts(a=5000)], (Counts(a=5001),), (Counts(a=5000, c=1),), (Counts(a=5000), Counts(a=4999, b=1)),
                     (Counts(a=4000), Counts(a=5000)), (Counts(a=5000), Counts(a=5000)), (Counts(a=5000), None),
                     (Counts(b=1), Counts(a=4999, b=1)), (Counts(), Counts(a=5000))):
            self.assertIs(shows_tops(both, told, right), False)
            self.assertIs(shows_tops(both, right, told), False)

    def test_many_tops(self):
        names = MANY[:98]
        promise = Promise(Limit.of(2, {name: 1 for name in names}))
        tops = promise.peaks()
        self.assertEqual(len(tops), 4851)
        self.assertIs(shows_tops(promise, tops, (Counts(),)), True)
        self.assertIs(shows_tops(promise, tops + tops, (Counts(),)), False)
        for at in (0, 2000, 4850):
            self.assertIs(shows_tops(promise, tops[:at] + tops[at + 1:], (Counts(),)), False)
        more = Promise(Limit.of(2, {name: 1 for name in MANY[:100]}))
        self.raises(TooMany("standings", 5000), shows_tops, more, tuple(
            Counts.of({one: 1, other: 1}) for one, other in reversed(list(itertools.combinations(sorted(MANY[:100]), 2)))
            if one != other), None)


def changed(tops, promise):
    """Tops with something wrong (or, by chance, the same ones)."""
    chance = random.Random(len(tops))
    at = chance.randrange(len(tops))
    one = tops[at]
    yield list(tops)
    yield tops[:at] + tops[at + 1:]
    yield tops + (one,)
    yield tuple(reversed(tops))
    yield tops[:at] + (one + Counts(a=1),) + tops[at + 1:]
    yield tops[:at] + (one + Counts(zoo=1),) + tops[at + 1:]
    yield tops[:at] + (str(one),) + tops[at + 1:]
    yield tops[:at] + (one, one) + tops[at + 1:]
    for name in one:
        yield tops[:at] + (one - Counts.of({name: 1}),) + tops[at + 1:]
        yield tops[:at] + (one - Counts.of({name: 1}), one) + tops[at + 1:]
    yield ()
    yield (Counts(),)


if __name__ == "__main__":
    unittest.main()
