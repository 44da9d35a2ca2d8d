"""Racks of lockers: made, asked, reckoned, compared, written, read and refused."""

import itertools
import unittest

from stayhouse.errors import BadNumber, BadStock, BadText
from stayhouse.racks import Rack

from helpers import ANY, GREATEST, StayTest, is_any_integer

ALL = [Rack(*numbers) for numbers in itertools.product(range(3), repeat=3)]


def sums(rack):
    """How many there are from each size on, counted plainly."""
    return [sum(rack.nine[at:]) for at in range(9)]


class MadeTest(StayTest):
    def test_ordinary(self):
        for rack in (Rack(1, 0, 2), Rack.of([1, 0, 2]), Rack.of((1, 0, 2, 0)), Rack.of({3: 2, 1: 1, 9: 0}), Rack.of(numbers=[1, 0, 2])):
            self.same([rack.nine, rack.total, list(rack), len(rack), bool(rack)], [(1, 0, 2) + (0,) * 6, 3, [1, 3], 2, True])
            self.assertEqual(rack, Rack(1, 0, 2, 0, 0, 0, 0, 0, 0))
        for rack in (Rack(), Rack(0), Rack.of([]), Rack.of(()), Rack.of({}), Rack.of({4: 0})):
            self.same([rack.nine, rack.total, list(rack), len(rack), bool(rack), str(rack)], [(0,) * 9, 0, [], 0, False, "-"])

    def test_nine_and_ten(self):
        self.same(Rack(*range(9)).nine, tuple(range(9)))
        self.same(Rack.of([GREATEST] * 9).total, 9 * GREATEST)
        self.raises(BadStock("lockers"), Rack, *range(10))
        self.raises(BadStock("lockers"), Rack, *[0] * 10)
        self.raises(BadStock("lockers"), Rack.of, [0] * 10)
        self.raises(BadStock("lockers"), Rack.of, {10: 1})
        self.raises(BadStock("lockers"), Rack.of, {0: 1})
        self.assertEqual(Rack.of({9: 1, 1: 2}).nine, (2,) + (0,) * 7 + (1,))

    def test_wrong_numbers(self):
        for value in ANY:
            if is_any_integer(value, 0):
                self.assertEqual(Rack(1, value).total, 1 + value)
                continue
            self.raises(BadStock("lockers"), Rack, value)
            self.raises(BadStock("lockers"), Rack, 1, value, 2)
            self.raises(BadStock("lockers"), Rack.of, [1, value])
            self.raises(BadStock("lockers"), Rack.of, {1: value})
        for value in ANY:
            if value not in ([], (), {}, {1: 2}, (1, 2), [0]):
                self.raises(BadStock("lockers"), Rack.of, value)
            if not is_any_integer(value, 1, 9) and value.__class__ in (int, bool, str, tuple, type(None)) and value != ([],):
                self.raises(BadStock("lockers"), Rack.of, {value: 1})

    def test_later_changes(self):
        numbers, table = [1, 2], {1: 1}
        racks = [Rack.of(numbers), Rack.of(table)]
        numbers[0] = 5
        table[2] = 5
        self.assertEqual(racks, [Rack(1, 2), Rack(1)])


class AskedTest(StayTest):
    def test_sizes(self):
        rack = Rack(1, 0, 2, 4)
        self.same([rack[size] for size in range(1, 10)], [1, 0, 2, 4, 0, 0, 0, 0, 0])
        self.same([rack.from_size(size) for size in range(1, 10)], [7, 6, 6, 4, 0, 0, 0, 0, 0])
        self.same([size in rack for size in range(0, 11)], [False, True, False, True, True] + [False] * 6)
        self.same(rack.from_size(size=3), 6)
        for value in ANY:
            if not is_any_integer(value, 1, 9):
                self.raises(BadNumber(value), lambda: rack[value])
                self.raises(BadNumber(value), rack.from_size, value)
            self.assertIs(value in rack, value == 1 and value is not True)
        # Nothing is counted from the end.
        last = Rack.of({9: 1})
        self.same([9 in last, 0 in last, 18 in last, -9 in last], [True, False, False, False])


class ReckonedTest(StayTest):
    def test_all_pairs(self):
        for one, other in itertools.product(ALL, repeat=2):
            pairs = list(zip(one.nine, other.nine))
            lines = list(zip(sums(one), sums(other)))
            self.assertEqual((one + other).nine, tuple(a + b for a, b in pairs))
            self.assertEqual(sums(one & other), [min(line) for line in lines])
            self.assertEqual(sums(one | other), [max(line) for line in lines])
            lesser, greater = all(a <= b for a, b in lines), all(a >= b for a, b in lines)
            equal = one.nine == other.nine
            self.same([one <= other, one >= other, one < other, one > other, one == other, one != other],
                      [lesser, greater, lesser and not equal, greater and not equal, equal, not equal])
            if all(a >= b for a, b in pairs):
                self.assertEqual((one - other).nine, tuple(a - b for a, b in pairs))
            else:
                self.raises(BadStock("less"), lambda: one - other)

    def test_stands_in(self):
        self.assertIs(Rack(2) <= Rack(0, 2), True)
        self.assertIs(Rack(0, 2) <= Rack(2), False)
        self.assertIs(Rack(0, 2) <= Rack(1, 1), False)
        # What stands in may have fewer of a size: it cannot be taken off.
        self.raises(BadStock("less"), lambda: Rack(0, 2) - Rack(1))

    def test_greatest_size(self):
        one, other = Rack.of({9: 2, 1: 1}), Rack.of({9: 1, 8: 2})
        self.same([(one & other).nine, (one | other).nine], [(1,) + (0,) * 6 + (1, 1), (0,) * 7 + (1, 2)])
        self.same([one <= other, other <= one], [False, False])

    def test_times(self):
        for one in ALL:
            for number in (0, 1, 3, GREATEST):
                self.assertEqual((one * number).nine, tuple(a * number for a in one.nine))
        for value in ANY:
            if not is_any_integer(value, 0):
                self.raises(BadNumber(value), lambda: Rack(1) * value)
                self.raises(BadNumber(value), lambda: Rack() * value)

    def test_wrong_other(self):
        one = Rack(1)
        for value in ANY:
            if not isinstance(value, Rack):
                for work in (lambda: one + value, lambda: one - value, lambda: one & value, lambda: one | value, lambda: one <= value,
                             lambda: one >= value, lambda: one < value, lambda: one > value, lambda: Rack() - value):
                    self.raises(BadStock("other"), work)
                self.assertIs(one == value, False)

    def test_never_changes(self):
        one = other = Rack(1)
        one += Rack(0, 1)
        one *= 2
        self.assertEqual([one, other], [Rack(2, 2), Rack(1)])


class TextsTest(StayTest):
    def test_written_and_read(self):
        for rack in ALL[1:] + [Rack(*range(1, 10)), Rack.of({9: 10 ** 1000 - 1})]:
            self.read_of(Rack.read, rack, range(2, 2 * len(rack), 2))
        self.read_of(Rack.read, Rack())
        self.assertEqual(str(Rack(1, 0, 2)), "1 1 3 2")
        self.assertEqual(Rack.read(text="3 2"), Rack(0, 0, 2))

    def test_wrong_words(self):
        self.read_wrong(Rack.read, {
            "": 0, "0 1": 0, "10 1": 0, "1 0": 1, "1 01": 1, "01 1": 0, "1": 1, "2 1 1 1": 2, "2 1 2 1": 2, "- -": 1, "- 1 1": 1, "1 1 -": 2,
            "1 1 2": 3, "1 1 ; 2 1": 2, "9 1 1 1": 2, "9 1 10 1": 2, "a 1": 0, "1 a": 1, "1  1": 1, "1 1 ": 2, "1 -": 1, "+1 1": 0,
        })
        self.assertEqual(Rack.read("1 " + "9" * 1000).total, 10 ** 1000 - 1)
        self.raises(BadText(0, 1), Rack.read, "1 " + "9" * 1001)

    def test_changed_texts(self):
        # All words are numbers here: so many changed ones can stand.
        text = "1 5 3 10"
        self.doubled(Rack.read, text, {0: 4, 1: 4, 2: 4, 3: 4})
        self.exchanged(Rack.read, text, {0: 2, 1: None, 2: 2})
        self.left_out(Rack.read, text, {0: 2, 1: 2, 2: 2, 3: 3})


if __name__ == "__main__":
    unittest.main()
