"""Papers: made of any values, kept, equal, true or false."""

import unittest

from helpers import ANY, StayTest

from stayhouse.beats import Given
from stayhouse.cart_needs import CartNeed, CartRing
from stayhouse.compared import Alike, More, Never, Parted
from stayhouse.door import Closed
from stayhouse.fills import Bar, Fill
from stayhouse.judge import Needs, Safe, Unsafe
from stayhouse.line_needs import LineNeed, LineRing
from stayhouse.lines import Lacking, Moved
from stayhouse.lockers import Fits, Short
from stayhouse.papers import Denial, Paper
from stayhouse.places import Crowded, Housed

FIELDS = {
    Housed: "knots", Crowded: "row", Fits: "knots", Short: "row", CartNeed: "number heights row", CartRing: "row ring",
    LineNeed: "number heights row", LineRing: "row ring", Moved: "moves", Lacking: "i j", Given: "site locker gate line",
    Safe: "places lockers carts sums", Unsafe: "row part", Needs: "carts sums", Alike: "table", Parted: "row taker", Never: "table", More: "row",
    Fill: "parts", Bar: "days", Closed: "word thing",
}
FALSE = (Crowded, Short, CartRing, LineRing, Lacking, Unsafe, Parted, More, Bar, Closed)


class PapersTest(StayTest):
    def test_bases(self):
        for kind in FIELDS:
            self.assertEqual(kind.__bases__, (Denial if kind in FALSE else Paper,))
        self.assertEqual(Denial.__bases__, (Paper,))

    def test_any_values(self):
        for kind, fields in FIELDS.items():
            names = fields.split()
            for at, value in enumerate(ANY):
                values = [ANY[(at + k) % len(ANY)] for k in range(len(names))]
                paper = kind(*values)
                self.assertIs(bool(paper), kind not in FALSE)
                for name, told in zip(names, values):
                    self.same(getattr(paper, name), told)
                self.assertEqual(paper, kind(**dict(zip(names, values))))

    def test_equal(self):
        for kind, fields in FIELDS.items():
            many = len(fields.split())
            one = [("a", 1)] * many
            self.assertTrue(kind(*one) == kind(*one))
            self.assertFalse(kind(*one) != kind(*one))
            # As Python compares them.
            self.assertTrue(kind(*[1] * many) == kind(*[True] * many))
            self.assertFalse(kind(*[(1,)] * many) == kind(*[[1]] * many))
            for at in range(many):
                other = list(one)
                other[at] = ("a", 2)
                self.assertFalse(kind(*one) == kind(*other))
            for value in ANY:
                self.assertFalse(kind(*one) == value)
            for other in FIELDS:
                if other is not kind and len(FIELDS[other].split()) == many:
                    self.assertFalse(kind(*one) == other(*one))

    def test_later_changes_have_no_effect(self):
        for kind, fields in FIELDS.items():
            names = fields.split()
            for make in (lambda: [1, [2]], lambda: {"a": {"b": 1}, "c": [1]}, lambda: ([1], {"a": 2}), lambda: ((1, [2]),)):
                values = [make() for _ in names]
                paper = kind(*values)
                for value in values:
                    inner = value[0] if isinstance(value, tuple) else value
                    if isinstance(inner, tuple):
                        inner[1].append(5)
                    elif isinstance(inner, list):
                        inner.append(5)
                        if isinstance(inner[1], list):
                            inner[1].append(6)
                    else:
                        inner["a"]["b"] = 7
                        inner["c"].append(8)
                        inner["d"] = 9
                for name in names:
                    self.same(getattr(paper, name), make())


if __name__ == "__main__":
    unittest.main()
