"""Counts: made, reckoned, compared, written, read and refused."""

import inspect
import itertools
import unittest

from stayhouse.counts import Counts
from stayhouse.errors import BadCounts, BadName, BadNumber, BadText

from helpers import ANY, StayTest, is_any_integer, is_any_name

ALL = [Counts(a=a, b=b, c=c) for a, b, c in itertools.product(range(3), repeat=3)]


def numbers(counts):
    return [counts[name] for name in "abc"]


class MadeTest(StayTest):
    def test_ordinary(self):
        for made in (Counts(b=2, a=10 ** 30, c=0), Counts.of({"b": 2, "a": 10 ** 30, "c": 0})):
            self.same(made.names, ("a", "b"))
            self.same(made.total, 10 ** 30 + 2)
            self.same([made["a"], made["b"], made["c"]], [10 ** 30, 2, 0])
            self.same(list(made), ["a", "b"])
            self.assertEqual(len(made), 2)
            self.assertIs(bool(made), True)

    def test_empty(self):
        for made in (Counts(), Counts.of({}), Counts(a=0), Counts.of({"a": 0, "b": 0})):
            self.same([made.names, made.total, len(made), list(made), bool(made), str(made)], [(), 0, 0, [], False, "-"])
            self.assertEqual(made, Counts())

    def test_wrong_dicts(self):
        for value in ANY:
            if not isinstance(value, dict):
                self.raises(BadCounts("numbers"), Counts.of, value)

    def test_wrong_names(self):
        keys = [value for value in ANY if value.__hash__ is not None and not is_any_name(value)]
        for key in keys:
            try:
                hash(key)
            except TypeError:
                continue
            self.raises(BadName(key), Counts.of, {"a": 1, key: 1, "B": 1, "c": -1})
            if isinstance(key, str) and key != "self":
                self.raises(BadName(key), Counts, **{"a": 1, key: 1, "B": 1})
        self.raises(BadName("self"), Counts.of, {"self": 1})
        self.raises(BadName("abcdefghi"), Counts, abcdefghi=1)
        self.assertEqual(Counts(abcdefgh=1).names, ("abcdefgh",))

    def test_wrong_numbers(self):
        for value in ANY:
            if is_any_integer(value, 0):
                self.assertEqual(Counts(a=value).total, value)
            else:
                self.raises(BadNumber(value), Counts, a=value)
                self.raises(BadNumber(value), Counts.of, {"b": 1, "a": value})

    def test_first_wrong_one(self):
        self.raises(BadNumber(-1), Counts.of, {"a": -1, "B": 1})
        self.raises(BadName("B"), Counts.of, {"B": -1, "a": -2})
        self.raises(BadName("B"), Counts.of, {"z": 0, "B": -1, "a": True})
        self.raises(BadNumber(True), Counts.of, {"z": 0, "c": True, "B": -1})
        self.raises(BadNumber(-2), Counts, b=-2, a=-1)

    def test_names_that_python_keeps(self):
        made = Counts.of({"class": 2, "if": 1, "numbers": 3, "cls": 1})
        self.assertEqual(str(made), "class 2 cls 1 if 1 numbers 3")
        self.assertEqual(Counts(numbers=3)["numbers"], 3)

    def test_later_changes(self):
        told = {"a": 1}
        made = Counts.of(told)
        told["a"] = 5
        told["b"] = 1
        self.assertEqual(made, Counts(a=1))
        listed = list(made)
        listed.append("b")
        self.assertEqual(list(made), ["a"])

    def test_any_values_asked(self):
        made = Counts(a=3, b=1)
        for value in ANY:
            self.same(made[value], {"a": 3, "b": 1}.get(value, 0) if isinstance(value, str) else 0)
            self.assertIs(value in made, isinstance(value, str) and value in ("a", "b"))

    def test_arguments(self):
        self.assertEqual(list(inspect.signature(Counts.of).parameters), ["numbers"])
        self.assertEqual(list(inspect.signature(Counts.read).parameters), ["text"])
        self.assertEqual(Counts.of(numbers={"a": 1}), Counts.read(text="a 1"))


class ReckonedTest(StayTest):
    def test_all_pairs(self):
        for one, other in itertools.product(ALL, repeat=2):
            left, right = numbers(one), numbers(other)
            pairs = list(zip(left, right))
            self.assertEqual(numbers(one + other), [a + b for a, b in pairs])
            self.assertEqual(numbers(one & other), [min(pair) for pair in pairs])
            self.assertEqual(numbers(one | other), [max(pair) for pair in pairs])
            lesser, greater = all(a <= b for a, b in pairs), all(a >= b for a, b in pairs)
            self.same([one <= other, one >= other, one == other, one != other],
                      [lesser, greater, left == right, left != right])
            self.same([one < other, one > other], [lesser and left != right, greater and left != right])
            if greater:
                self.assertEqual(numbers(one - other), [a - b for a, b in pairs])
            else:
                self.raises(BadCounts("less"), lambda: one - other)

    def test_names_of_results(self):
        one, other = Counts(a=2, b=1), Counts(b=1, c=4)
        self.same([(one + other).names, (one & other).names, (one | other).names], [("a", "b", "c"), ("b",), ("a", "b", "c")])
        self.same([(one - Counts(a=2)).names, (one * 0).names, (one + other).total], [("b",), (), 8])

    def test_times(self):
        for one in ALL:
            for number in (0, 1, 2, 10 ** 30):
                self.assertEqual(numbers(one * number), [a * number for a in numbers(one)])
        for value in ANY:
            if not is_any_integer(value, 0):
                self.raises(BadNumber(value), lambda: Counts() * value)
                self.raises(BadNumber(value), lambda: Counts(a=1) * value)

    def test_wrong_other(self):
        one = Counts(a=1)
        for value in ANY:
            if isinstance(value, Counts):
                continue
            for work in (lambda: one + value, lambda: one - value, lambda: one & value, lambda: one | value,
                         lambda: one <= value, lambda: one >= value, lambda: one < value, lambda: one > value,
                         lambda: Counts() + value, lambda: Counts() - value, lambda: Counts() <= value):
                self.raises(BadCounts("other"), work)
            self.assertIs(one == value, False)
            self.assertIs(one != value, True)

    def test_never_changes(self):
        one, other = Counts(a=1), Counts(a=1)
        one += Counts(b=1)
        self.assertEqual([str(one), str(other)], ["a 1 b 1", "a 1"])
        kept = one
        one *= 2
        one -= other
        self.assertEqual([str(one), str(kept)], ["a 1 b 2", "a 1 b 1"])


class TextsTest(StayTest):
    def test_written_and_read(self):
        for counts in ALL[1:] + [Counts(a=10 ** 1000 - 1, zzzzzzzz=1)]:
            words = len(str(counts).split(" "))
            self.read_of(Counts.read, counts, range(2, words, 2))
        self.read_of(Counts.read, Counts())

    def test_wrong_words(self):
        self.read_wrong(Counts.read, {
            "": 0, " ": 0, "a": 1, "a ": 1, "a 1 ": 2, " a 1": 0, "a  1": 1, "a 0": 1, "a 01": 1, "a -1": 1, "a +1": 1,
            "- -": 1, "- a 1": 1, "a 1 -": 2, "a -": 1, "a 1 a 1": 2, "b 1 a 1": 2, "a 1 ; b 1": 2, "a 1 ;": 2, "self 1": 0,
            "abcdefghi 1": 0, "1 a": 0, "A 1": 0, "a 1 b": 3, "a 1 b 1 c": 5, "zzzzzzzz 1 a": 2, "--": 0, "-\n": 0, "a 1\n": 1,
        })

    def test_figures(self):
        self.assertEqual(Counts.read("a " + "9" * 1000)["a"], 10 ** 1000 - 1)
        self.raises(BadText(0, 1), Counts.read, "a 1" + "0" * 1000)
        self.raises(BadText(0, 3), Counts.read, "a 1 b 1" + "0" * 1000)

    def test_changed_texts(self):
        self.doubled(Counts.read, "a 2 b 1", {})
        self.exchanged(Counts.read, "a 2 b 1", {})
        self.left_out(Counts.read, "a 2 b 1", {3: 3})
        self.doubled(Counts.read, "-")

    def test_long_numbers_written(self):
        large = Counts(a=10 ** 39)
        for _ in range(8):
            large = large * large["a"]
        self.assertEqual(str(large), "a 1" + "0" * (39 * 256))


if __name__ == "__main__":
    unittest.main()
