"""What several tests use: any values, errors with their fields, examples, texts that are read."""

import re
import unittest

from stayhouse.books import Book
from stayhouse.calendars import Calendar, Sale
from stayhouse.counts import Counts
from stayhouse.errors import BadText, Refused, StayError
from stayhouse.limits import Limit, YearLimit
from stayhouse.promises import Promise
from stayhouse.racks import Rack
from stayhouse.rows import Row
from stayhouse.sites import Site
from stayhouse.stays import Stay
from stayhouse.wishes import Wish

GREATEST = 10 ** 30


def work(free, size):
    return None


# Values of all kinds: most of them are wrong wherever they are passed.
ANY = [
    None, True, False, 0, 1, -1, 5, 9, 10, GREATEST, GREATEST + 1, -10 ** 39, "", "a", "b", "abcdefgh", "abcdefghi",
    "self", "selfs", "A", "a1", "a b", " a", "a\n", "-", "0", "07", "12", "once 2 : a 1", "x" * 2000, (), ("a",),
    ("a", 0), ("a", 1, 2), (1, 2), [], ["a"], [0], [("a", 0)], [[]], {}, {"a": 1}, {1: 2}, {"a": "b"}, {(): 0}, work,
    Counts(), Counts(a=1), Limit(2, a=1), YearLimit(3, a=1), Promise(), Promise(Limit(2, a=1)), Row(), Row("a"), Rack(),
    Rack(1), Site("a", "b", "c"), Wish("a", [("a", 0)]), Refused("carts", "a"), Stay(0, 1), Book([1]),
    Calendar(1, 0, 1), Sale("a", "a", Stay(0, 1)),
]


def is_any_name(value):
    """A name, told otherwise than in the package."""
    return type(value) is str and re.fullmatch("[a-z]{1,8}", value) is not None and value != "self"


def is_any_integer(value, least, most=None):
    """An integer from least on, told otherwise than in the package."""
    return type(value) is int and value >= least and (most is None or value <= most)


def same(one, other):
    """Whether two values are equal and of one kind, all parts, too."""
    if type(one) is not type(other):
        return False
    if isinstance(one, (list, tuple)):
        return len(one) == len(other) and all(same(a, b) for a, b in zip(one, other))
    return one is other or one == other


class StayTest(unittest.TestCase):
    """A test that knows the errors of the package."""

    def raises(self, error, function, *arguments, **named):
        """The call raises just this error: its class and its fields."""
        try:
            result = function(*arguments, **named)
        except StayError as raised:
            self.assertIs(type(raised), type(error), f"{raised!r} instead of {error!r}")
            one, other = vars(raised), vars(error)
            self.assertEqual(sorted(one), sorted(other))
            for name in one:
                self.assertTrue(same(one[name], other[name]), f"{name}: {one[name]!r} instead of {other[name]!r}")
        else:
            self.fail(f"{error!r} not raised, but {result!r} returned")

    def same(self, one, other):
        """The values are equal and of one kind."""
        self.assertTrue(same(one, other), f"{one!r} is not {other!r}")

    def read_wrong(self, read, cases):
        """Each text is refused at the word that is told with it."""
        for text, word in cases.items():
            with self.subTest(text=text):
                self.raises(BadText(0, word), read, text)

    def read_of(self, read, thing, longer=(), strangers=("?", "", "Self", "-1", "00", "a\n")):
        """The text of a thing is read; cut, with a strange word in it, or with one more, it is told at its word.

        longer: the numbers of words at which the text could end, too.
        """
        text = str(thing)
        words = text.split(" ")
        self.assertEqual(read(text), thing)
        self.assertEqual(str(read(text)), text)
        self.assertIs(type(read(text)), type(thing))
        for value in ANY:
            if not isinstance(value, str):
                self.raises(BadText(0, 0), read, value)
        for at in range(len(words) + 1):
            for strange in strangers:
                with self.subTest(text=text, at=at, strange=strange):
                    self.raises(BadText(0, at), read, " ".join(words[:at] + [strange] + words[at:]))
                    if at < len(words):
                        self.raises(BadText(0, at), read, " ".join(words[:at] + [strange] + words[at + 1:]))
            if 0 < at < len(words) and at not in longer:
                with self.subTest(text=text, cut=at):
                    self.raises(BadText(0, at), read, " ".join(words[:at]))

    def doubled(self, read, text, places=None):
        """Each word doubled is told at the second one, or at the place that is told for it."""
        words = text.split(" ")
        for at in range(len(words)):
            expected = (places or {}).get(at, at + 1)
            with self.subTest(text=text, doubled=at):
                twice = " ".join(words[:at + 1] + words[at:])
                if expected is None:
                    read(twice)
                else:
                    self.raises(BadText(0, expected), read, twice)

    def exchanged(self, read, text, places=None):
        """Each word exchanged with the next one is told at its place, or at the place that is told for it."""
        words = text.split(" ")
        for at in range(len(words) - 1):
            expected = (places or {}).get(at, at)
            with self.subTest(text=text, exchanged=at):
                turned = " ".join(words[:at] + [words[at + 1], words[at]] + words[at + 2:])
                if expected is None:
                    read(turned)
                else:
                    self.raises(BadText(0, expected), read, turned)

    def left_out(self, read, text, places=None):
        """Each word left out is told at its place, or at the place that is told for it."""
        words = text.split(" ")
        for at in range(len(words)):
            expected = (places or {}).get(at, at)
            with self.subTest(text=text, left_out=at):
                short = " ".join(words[:at] + words[at + 1:])
                if expected is None:
                    read(short)
                else:
                    self.raises(BadText(0, expected), read, short)


def run_examples(test, text, names):
    """Runs examples as the document writes them; names are bound in a dict."""
    lines = text.strip().split("\n")
    at = 0
    while at < len(lines):
        source = lines[at][4:]
        told = lines[at + 1] if at + 1 < len(lines) and not lines[at + 1].startswith(">>> ") else None
        with test.subTest(example=source):
            run_example(test, source, told, names)
        at += 1 if told is None else 2


def run_example(test, source, told, names):
    """Runs one example."""
    if told is None:
        exec(source, names)
    elif told.startswith("raises "):
        with test.assertRaises(StayError) as caught:
            eval(source, names)
        test.assertEqual(repr(caught.exception), told[len("raises "):])
    else:
        test.assertEqual(repr(eval(source, names)), told)
