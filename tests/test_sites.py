"""Sites: made, changed, written, read and refused."""

import inspect
import unittest

from stayhouse.errors import BadSite
from stayhouse.sites import Site

from helpers import ANY, StayTest, is_any_integer, is_any_name


class SitesTest(StayTest):
    def test_ordinary(self):
        site = Site("near", "east", "front", 6)
        self.same([site.name, site.hall, site.gate, site.line, str(site)], ["near", "east", "front", 6, "near east front 6"])
        self.assertEqual(Site(name="near", hall="east", gate="front", line=6), site)
        self.same(Site("near", "east", "front").line, 1)
        self.assertEqual(list(inspect.signature(Site).parameters), ["name", "hall", "gate", "line"])

    def test_wrong_parts(self):
        for value in ANY:
            if not is_any_name(value):
                self.raises(BadSite("name"), Site, value, "a", "b", 1)
                self.raises(BadSite("hall"), Site, "a", value, "b", 1)
                self.raises(BadSite("gate"), Site, "a", "b", value, 1)
            if not is_any_integer(value, 1, 6):
                self.raises(BadSite("line"), Site, "a", "b", "c", value)
        for line in range(1, 7):
            self.assertEqual(Site("a", "b", "c", line).line, line)
        self.raises(BadSite("line"), Site, "a", "b", "c", 7)

    def test_first_wrong_one(self):
        wrong, right = ["A", "B", "C", 7], ["a", "b", "c", 1]
        for at, part in enumerate(["name", "hall", "gate", "line"]):
            self.raises(BadSite(part), Site, *(right[:at] + wrong[at:]))

    def test_otherwise(self):
        site = Site("near", "east", "front", 2)
        self.assertEqual(site.with_hall("west"), Site("near", "west", "front", 2))
        self.assertEqual(site.with_gate("back"), Site("near", "east", "back", 2))
        self.assertEqual(site.with_line(6), Site("near", "east", "front", 6))
        self.assertEqual([site.with_hall(hall="a").hall, site.with_gate(gate="a").gate, site.with_line(line=1).line], ["a", "a", 1])
        for value in ANY:
            if not is_any_name(value):
                self.raises(BadSite("hall"), site.with_hall, value)
                self.raises(BadSite("gate"), site.with_gate, value)
            if not is_any_integer(value, 1, 6):
                self.raises(BadSite("line"), site.with_line, value)
        self.assertEqual(str(site), "near east front 2")

    def test_equality(self):
        parts = ["near", "east", "front", 2]
        for at, part in enumerate(["far", "west", "back", 3]):
            self.assertNotEqual(Site(*parts), Site(*parts[:at], part, *parts[at + 1:]))
        self.assertEqual(Site(*parts), Site(*parts))
        for value in ANY:
            self.assertIs(Site(*parts) == value, False)

    def test_texts(self):
        for site in (Site("near", "east", "front"), Site("a", "a", "a", 6), Site("abcdefgh", "b", "c", 3)):
            self.read_of(Site.read, site)
        self.assertEqual(Site.read(text="a b c 1"), Site("a", "b", "c"))
        self.read_wrong(Site.read, {
            "": 0, "a b c 0": 3, "a b c 7": 3, "a b c 10": 3, "a b c d": 3, "a b c 1 1": 4, "a b 1": 2, "self b c 1": 0,
            "a self c 1": 1, "a b self 1": 2, "a b c 01": 3, "1 a b c": 0, "a b c ": 3, "a b c 1 ": 4,
        })
        self.doubled(Site.read, "a b c 1", {0: 3, 1: 3, 2: 3})
        self.exchanged(Site.read, "a b c 1", {0: None, 1: None, 2: 2})
        self.left_out(Site.read, "a b c 1", {0: 2, 1: 2, 2: 2, 3: 3})


if __name__ == "__main__":
    unittest.main()
