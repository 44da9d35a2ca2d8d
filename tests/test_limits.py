"""Limits: made, weighed, written, read and refused."""

import inspect
import unittest

from stayhouse.counts import Counts
from stayhouse.errors import BadCounts, BadLimit, BadName, BadNumber, BadText
from stayhouse.limits import Limit, YearLimit

from helpers import ANY, GREATEST, StayTest, is_any_integer

BOTH = (Limit, YearLimit)


class MadeTest(StayTest):
    def test_ordinary(self):
        for kind in BOTH:
            for limit in (kind(4, child=1, adult=2, dog=0), kind.of(4, {"adult": 2, "child": 1}), kind(bound=4, adult=2, child=1),
                          kind.of(bound=4, weights={"adult": 2, "child": 1})):
                self.assertIs(type(limit), kind)
                self.same([limit.bound, limit.weights], [4, Counts(adult=2, child=1)])
        self.assertIs(Limit.YEARLY, False)
        self.assertIs(YearLimit.YEARLY, True)
        self.assertIs(Limit(1).YEARLY, False)
        self.assertIs(YearLimit(1).YEARLY, True)
        self.assertEqual(YearLimit.__bases__, (Limit,))
        self.assertEqual(list(inspect.signature(Limit).parameters), ["bound", "weights"])
        self.assertEqual(list(inspect.signature(YearLimit).parameters), ["bound", "weights"])

    def test_bounds(self):
        for kind in BOTH:
            self.same([kind(0).bound, kind(GREATEST).bound, kind(0, a=10 ** 39).weights["a"]], [0, GREATEST, 10 ** 39])
            for value in ANY:
                if not is_any_integer(value, 0, GREATEST):
                    self.raises(BadLimit("bound"), kind, value)
                    self.raises(BadLimit("bound"), kind, value, A=1)
                    self.raises(BadLimit("bound"), kind.of, value, {})
                    self.raises(BadLimit("bound"), kind.of, value, None)

    def test_wrong_weights(self):
        for kind in BOTH:
            for value in ANY:
                if not is_any_integer(value, 0):
                    self.raises(BadNumber(value), kind, 1, a=1, b=value)
                    self.raises(BadNumber(value), kind.of, 1, {"a": 1, "b": value, "C": 1})
                if not isinstance(value, dict):
                    self.raises(BadCounts("numbers"), kind.of, 1, value)
            self.raises(BadName("A"), kind, 1, A=-1)
            self.raises(BadName("self"), kind.of, 1, {"self": 1})
            self.raises(BadName(3), kind.of, 1, {"a": 1, 3: -1})
            self.raises(BadName(None), kind.of, 1, {None: 1})

    def test_a_wish_called_bound(self):
        for kind in BOTH:
            limit = kind.of(3, {"bound": 2, "weights": 1, "cls": 4, "class": 5})
            self.same([limit.bound, limit.weights], [3, Counts.of({"bound": 2, "weights": 1, "cls": 4, "class": 5})])
            self.assertEqual(kind.read(str(limit)), limit)
            self.assertEqual((limit + 1).weights, limit.weights)
            self.assertEqual((limit - 1).weights, limit.weights)
            self.assertIs(type(limit + 1), kind)

    def test_later_changes(self):
        weights = {"a": 1}
        limit = Limit.of(1, weights)
        weights["a"] = 2
        self.assertEqual(limit, Limit(1, a=1))


class WeighedTest(StayTest):
    def test_weigh_and_keeps(self):
        for kind in BOTH:
            limit = kind(6, dog=3, adult=1)
            for counts, total in ((Counts(), 0), (Counts(dog=2), 6), (Counts(dog=2, adult=1), 7), (Counts(adult=6), 6),
                                  (Counts(cat=9), 0), (Counts(adult=1, bird=9, cat=5, dog=1), 4)):
                self.same([limit.weigh(counts), limit.keeps(counts)], [total, total <= 6])
            self.same([kind(0).weigh(Counts(a=1)), kind(0).keeps(counts=Counts(a=1))], [0, True])
            self.same(kind(1, a=10 ** 30).weigh(counts=Counts(a=10 ** 30)), 10 ** 60)

    def test_wrong_counts(self):
        for kind in BOTH:
            for value in ANY:
                if not isinstance(value, Counts):
                    self.raises(BadCounts("counts"), kind(1, a=1).weigh, value)
                    self.raises(BadCounts("counts"), kind(1, a=1).keeps, value)

    def test_other_bounds(self):
        for kind in BOTH:
            limit = kind(4, a=1)
            for made, bound in ((limit + 0, 4), (limit + 3, 7), (limit - 4, 0), (limit - 0, 4), (limit + (GREATEST - 4), GREATEST)):
                self.assertIs(type(made), kind)
                self.same([made.bound, made.weights], [bound, Counts(a=1)])
            self.raises(BadLimit("bound"), lambda: limit - 5)
            self.raises(BadLimit("bound"), lambda: limit + (GREATEST - 3))
            for value in ANY:
                if not is_any_integer(value, 0):
                    self.raises(BadNumber(value), lambda: limit + value)
                    self.raises(BadNumber(value), lambda: limit - value)
            self.assertEqual(limit.bound, 4)

    def test_equality(self):
        self.assertEqual(Limit(1, a=1, b=2), Limit(1, b=2, a=1, c=0))
        for kind in BOTH:
            self.assertEqual(kind(1, a=1), kind(1, a=1))
            self.assertNotEqual(kind(1, a=1), kind(2, a=1))
            self.assertNotEqual(kind(1, a=1), kind(1, a=2))
            self.assertNotEqual(kind(1, a=1), kind(1))
            for value in ANY:
                self.assertIs(kind(7) == value, False)
        self.assertNotEqual(Limit(1), YearLimit(1))
        self.assertNotEqual(YearLimit(1, a=1), Limit(1, a=1))


class TextsTest(StayTest):
    def test_written_and_read(self):
        for limit, text, longer in (
            (Limit(0), "once 0 : -", ()), (YearLimit(GREATEST), f"year {GREATEST} : -", ()),
            (Limit(4, child=1, adult=2), "once 4 : adult 2 child 1", (5,)),
            (YearLimit(6, dog=GREATEST), f"year 6 : dog {GREATEST}", ()),
        ):
            self.assertEqual(str(limit), text)
            self.read_of(Limit.read, limit, longer)
            self.read_of(YearLimit.read, limit, longer)
        self.assertEqual(YearLimit.read(text="once 1 : a 2"), Limit(1, a=2))

    def test_wrong_words(self):
        for read in (Limit.read, YearLimit.read):
            self.read_wrong(read, {
                "": 0, "-": 0, "once": 1, "Once 1 : -": 0, "limit 1 : -": 0, "once -1 : -": 1, "once 1": 2, "once 1 -": 2,
                "once 1 :": 3, "once 1 : - -": 4, "once 1 : - a 1": 4, "once 1 : a": 4, "once 1 : a 0": 4, "once 1 : a 1 -": 5,
                f"once {GREATEST + 1} : -": 1, f"once 1 : a {GREATEST + 1}": 4, "once 1 : b 1 a 1": 5, "once 1 : a 1 a 1": 5,
                "once 1 : a 1 ; once 1 : a 1": 5, "once 1 : a 1 ;": 5, "once 1 : ;": 3, "year 01 : -": 1, "once 1 : self 1": 3,
            })

    def test_changed_texts(self):
        text = "year 6 : adult 2 dog 3"
        self.doubled(Limit.read, text)
        self.exchanged(Limit.read, text)
        self.left_out(Limit.read, text)


if __name__ == "__main__":
    unittest.main()
