"""Stays: made, moved, compared, written, read and refused."""

import inspect
import unittest

from stayhouse.errors import BadNumber, BadStay, BadText
from stayhouse.stays import Stay

from helpers import ANY, StayTest, is_any_integer

FAR = 10 ** 39
STRANGERS = ("?", "", "Self", "a", "00", "07", "-0", "+1", "1.0", "a\n", "1\n")


class StaysTest(StayTest):
    def test_ordinary(self):
        for first, after in ((0, 1), (3, 10), (-5, -4), (-3, 2), (FAR, FAR + 1), (-FAR, FAR)):
            stay = Stay(first, after)
            self.same([stay.first, stay.after, stay.nights, str(stay)], [first, after, after - first, f"{first} to {after}"])
            self.assertEqual(Stay(first=first, after=after), stay)
        self.assertEqual(list(inspect.signature(Stay).parameters), ["first", "after"])

    def test_wrong_days(self):
        for value in ANY:
            if type(value) is not int:
                self.raises(BadStay("first"), Stay, value, 5)
                # Both are wrong: the first one is told.
                self.raises(BadStay("first"), Stay, value, value)
                self.raises(BadStay("after"), Stay, 0, value)
        for first, after in ((0, 0), (0, -1), (5, 4), (-3, -3), (-3, -4), (FAR, FAR), (FAR, 0)):
            self.raises(BadStay("after"), Stay, first, after)

    def test_nights(self):
        for stay in (Stay(0, 1), Stay(3, 10), Stay(-4, 3), Stay(FAR, FAR + 2)):
            days = list(range(stay.first, stay.after))
            for day in range(stay.first - 3, stay.after + 3):
                self.assertIs(day in stay, day in days)
            for value in ANY:
                self.assertIs(value in stay, type(value) is int and value in days)
            self.assertEqual(stay.nights, len(days))
        self.assertIs(True in Stay(0, 3), False)
        self.assertIs(False in Stay(0, 3), False)

    def test_moved(self):
        for n in (0, 1, 5, -3, FAR):
            self.assertEqual(Stay(3, 10) << n, Stay(3 - n, 10 - n))
            self.assertEqual(Stay(3, 10) >> n, Stay(3 + n, 10 + n))
        for value in ANY:
            if not is_any_integer(value, -FAR):
                self.raises(BadNumber(value), lambda: Stay(3, 10) << value)
                self.raises(BadNumber(value), lambda: Stay(3, 10) >> value)
        moved = kept = Stay(3, 10)
        moved <<= 2
        moved >>= 5
        self.assertEqual((moved, kept), (Stay(6, 13), Stay(3, 10)))

    def test_within(self):
        stays = [Stay(first, after) for first in range(-1, 4) for after in range(first + 1, 5)]
        for one in stays:
            for other in stays:
                self.assertIs(one <= other, set(range(one.first, one.after)) <= set(range(other.first, other.after)))
                self.assertIs(one == other, (one.first, one.after) == (other.first, other.after))
        for value in ANY:
            if not isinstance(value, Stay):
                self.raises(BadStay("other"), lambda: Stay(0, 1) <= value)
                self.assertIs(Stay(0, 1) == value, False)
                self.assertIs(Stay(0, 1) != value, True)

    def test_texts(self):
        for stay in (Stay(3, 10), Stay(-5, -4), Stay(-1, 0), Stay(-FAR, FAR), Stay(10 ** 999, 10 ** 1000 - 1)):
            self.read_of(Stay.read, stay, (), STRANGERS)
        self.assertEqual(Stay.read(text="0 to 1"), Stay(0, 1))
        self.read_wrong(Stay.read, {
            "": 0, "3": 1, "3 to": 2, "3 to ": 2, "3 to 5 ": 3, "3 to 5 6": 3, "3 5": 1, "to 5": 0, " 3 to 5": 0, "3  to 5": 1, "3 To 5": 1,
            "-0 to 5": 0, "03 to 5": 0, "3 to 05": 2, "3 to -0": 2, "3 to 5\n": 2, f"{'1' * 1001} to 5": 0, f"3 to {'1' * 1001}": 2,
            f"-{'1' * 1001} to 5": 0,
        })
        self.doubled(Stay.read, "3 to 5", {0: 1, 1: 2, 2: 3})
        self.exchanged(Stay.read, "3 to 5", {0: 0, 1: 1})
        self.left_out(Stay.read, "3 to 5", {0: 0, 1: 1, 2: 2})

    def test_read_days_that_are_refused(self):
        for text in ("3 to 2", "3 to 3", "0 to -1", "-3 to -4", "-3 to -3"):
            self.raises(BadStay("after"), Stay.read, text)
        # A word that cannot stand is told ahead of it.
        self.raises(BadText(0, 3), Stay.read, "3 to 2 1")


if __name__ == "__main__":
    unittest.main()
