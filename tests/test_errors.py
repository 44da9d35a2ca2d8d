"""Errors and their fields, and the base classes of papers."""

import unittest

import stayhouse.errors as errors
from stayhouse.papers import Denial, Paper

from helpers import ANY, StayTest

FIELDS = {
    "BadWish": ["part"], "BadSite": ["part"], "BadPlan": ["part"], "BadLimit": ["part"], "BadPromise": ["part"],
    "BadRow": ["at"], "BadStock": ["part"], "BadCounts": ["part"], "BadRule": ["part"], "BadStay": ["part"],
    "BadBook": ["part"], "BadCalendar": ["part"], "BadLines": ["part"], "BadHouse": ["part"], "BadNumber": ["value"],
    "BadName": ["value"], "BadText": ["line", "word"], "BadLine": ["word"], "NoWish": ["name"], "NoSite": ["name"],
    "NoGuest": ["name"], "NoHall": ["name"], "NoGate": ["name"], "Refused": ["part", "wish"], "NoBay": ["wish"],
    "Unbounded": ["part"], "Barred": ["word"], "TooMany": ["what", "most"], "Nothing": [],
}


class ErrorsTest(StayTest):
    def test_all_there(self):
        told = {name for name, value in vars(errors).items() if isinstance(value, type)}
        self.assertEqual(told, set(FIELDS) | {"StayError"})
        self.assertEqual(errors.StayError.__bases__, (ValueError,))

    def test_directly_below(self):
        for name in FIELDS:
            self.assertEqual(getattr(errors, name).__bases__, (errors.StayError,), name)
            self.assertEqual(getattr(errors, name).__module__, "stayhouse.errors")

    def test_fields_by_position_and_by_name(self):
        for name, fields in FIELDS.items():
            error = getattr(errors, name)
            for at in range(len(ANY) - 1):
                values = ANY[at:at + len(fields)]
                for made in (error(*values), error(**dict(zip(fields, values)))):
                    self.assertEqual(list(vars(made)), fields)
                    for field, value in zip(fields, values):
                        self.assertIs(getattr(made, field), value)

    def test_wrong_number_of_fields(self):
        for name, fields in FIELDS.items():
            if fields:
                with self.assertRaises(TypeError):
                    getattr(errors, name)(*["a"] * (len(fields) + 1))
                with self.assertRaises(TypeError):
                    getattr(errors, name)()

    def test_raised_and_caught(self):
        for name, fields in FIELDS.items():
            with self.assertRaises(errors.StayError):
                raise getattr(errors, name)(*fields)


class One(Paper):
    def __init__(self, row, part):
        self.row = row
        self.part = part

    def kept(self):
        return self.row, self.part


class Other(Paper):
    def __init__(self, row, part):
        self.row = row
        self.part = part

    def kept(self):
        return self.row, self.part


class No(Denial):
    def __init__(self, row):
        self.row = row

    def kept(self):
        return (self.row,)


class PapersTest(StayTest):
    def test_bases(self):
        self.assertEqual(Denial.__bases__, (Paper,))
        self.assertEqual(Paper.__bases__, (object,))

    def test_truth(self):
        for value in ANY:
            self.assertIs(bool(One(value, value)), True)
            self.assertIs(bool(No(value)), False)

    def test_equality(self):
        for value in ANY:
            self.assertEqual(One(value, 1), One(value, 1))
            self.assertFalse(One(value, 1) != One(value, 1))
            self.assertNotEqual(One(value, 1), One(value, 2))
            self.assertNotEqual(One(value, 1), Other(value, 1))
            self.assertNotEqual(One(value, 1), value)
            self.assertNotEqual(No(value), value)
        # As Python compares them.
        self.assertEqual(One(True, [1]), One(1, [True]))
        self.assertNotEqual(One((), 1), One([], 1))


if __name__ == "__main__":
    unittest.main()
