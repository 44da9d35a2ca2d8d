"""Texts of plans, houses and doors: written, read again, and where they first fail."""

import random
import unittest

from stayhouse.books import Book
from stayhouse.calendars import Calendar, Sale
from stayhouse.door import Door
from stayhouse.errors import (BadCalendar, BadHouse, BadPlan, BadRule, BadStay, BadStock, BadText, Barred, NoGuest, NoHall, NoSite, Nothing, NoWish,
                              Refused, StayError, TooMany, Unbounded)
from stayhouse.fittings import By, Greatest, Least, Order
from stayhouse.house import House
from stayhouse.limits import Limit, YearLimit
from stayhouse.plans import Plan
from stayhouse.promises import Promise
from stayhouse.reader import read_door, read_house, read_plan
from stayhouse.sites import Site
from stayhouse.stays import Stay
from stayhouse.stock import Stock
from stayhouse.texts import door_text, house_text, plan_text
from stayhouse.wishes import Wish

from helpers import ANY, StayTest, same
from plain import some_plan, some_stock
from plain_texts import Wrong, changed_text, plain_read
from test_door import carried_out, some_deed, some_door
from test_house import some_deed as some_house_deed

READS = {"plan": read_plan, "house": read_house, "door": read_door}
PLAN = Plan([Wish("rider", [("near", 0), ("far", 1)], cart=True, price=5), Wish("walker", [("far", 0)], size=2)],
            [Site("near", "east", "front", 1), Site("far", "west", "back", 2)], Promise(Limit(3, rider=1, walker=1), YearLimit(9, rider=1)),
            {"west": Order({2: [3, 2]}) | Least(), "east": Greatest()}, 3)
STOCK = Stock({"near": 1, "far": 2}, {"west": {2: 1, 3: 1}}, {"front": 2}, [8, 0, 9], [1, 2])
LINES = ["lines 3", "site far west back 2", "site near east front 1", "hall east greatest", "hall west ( order 2 : 3 2 | least )",
         "wish rider : near 0 , far 1 ; size 0 ; cart same ; price 5", "wish walker : far 0 ; size 2 ; cart none ; price 0",
         "promise once 3 : rider 1 walker 1 ; year 9 : rider 1"]
HOUSE_LINES = LINES + ["stock bays far 2 near 1 ; rack west 2 1 3 1 ; carts front 2 ; sums 8 0 9 ; caps 1 2", "come ann rider", "come bob walker", "go ann"]
DOOR_LINES = ["book 2 3", "promise once 2 : adult 1", "calendar rooms 3 days 0 to 5 ; ann adult 0 to 3"]


def a_house():
    """The house of the lines."""
    house = House(PLAN, STOCK)
    house.come("ann", "rider")
    house.come("bob", "walker")
    house.go("ann")
    return house


def a_door():
    """The door of the lines."""
    return Door.of(Book([3, 2]), Promise(Limit(2, adult=1)), Calendar(3, 0, 5, Sale("ann", "adult", Stay(0, 3))))


def some_house(rng):
    """A small house with a history."""
    plan = some_plan(rng)
    house = House(plan, some_stock(rng, plan))
    for _ in range(rng.randint(0, 12)):
        some_house_deed(rng, house)
    return house


class TextsTest(StayTest):
    def fails(self, kind, text, line, word, cause=None):
        """The text is refused at this line and word, with just this cause."""
        try:
            told = READS[kind](text)
        except BadText as error:
            self.same((error.line, error.word), (line, word))
            if cause is None:
                self.assertIsNone(error.__cause__)
            else:
                self.assertIs(type(error.__cause__), type(cause))
                self.assertTrue(same(vars(error.__cause__), vars(cause)), (error.__cause__, cause))
        else:
            self.fail(f"{text!r} is read as {told!r}")

    def test_written(self):
        self.assertEqual(plan_text(PLAN).split("\n"), LINES)
        self.assertEqual(house_text(a_house()).split("\n"), HOUSE_LINES)
        self.assertEqual(door_text(a_door()).split("\n"), DOOR_LINES)
        self.assertEqual(plan_text(plan=PLAN), read_and_written(read_plan, plan_text, PLAN))
        self.assertEqual(house_text(house=a_house()), read_and_written(read_house, house_text, a_house()))
        self.assertEqual(door_text(door=a_door()), read_and_written(read_door, door_text, a_door()))
        self.assertEqual(read_plan(text=plan_text(PLAN)), PLAN)
        self.assertEqual(read_house(text=house_text(a_house())), a_house())
        self.assertEqual(read_door(text=door_text(a_door())), a_door())

    def test_what_has_no_text(self):
        for value in ANY + [a_house(), a_door()]:
            self.raises(BadHouse("plan"), plan_text, value)
            if not isinstance(value, House):
                self.raises(BadHouse("house"), house_text, value)
            if not isinstance(value, Door):
                self.raises(BadHouse("door"), door_text, value)
        by = By(lambda free, size: None)
        for fitting in (by, by | Least(), Least() | by, Least() | (Greatest() | by), (by | by) | Order({})):
            plan = PLAN.with_fitting("west", fitting)
            self.raises(BadRule("fitting"), plan_text, plan)
            self.raises(BadRule("fitting"), house_text, House(plan, STOCK))
        deep = Least()
        for _ in range(50):
            deep = by | deep
        self.raises(BadRule("fitting"), plan_text, PLAN.with_fitting("west", deep))
        # Doubled again and again, it would have far too many words.
        wide = by
        for _ in range(100):
            wide = wide | wide
        self.raises(BadRule("fitting"), plan_text, PLAN.with_fitting("west", wide))

    def test_no_strings(self):
        for kind in READS:
            for value in ANY:
                if not isinstance(value, str):
                    self.fails(kind, value, 0, 0)
                else:
                    self.fails(kind, value, 0, 1 if value.startswith("book ") else 0)

    def test_read_again(self):
        rng = random.Random(171)
        for _ in range(100):
            house, door = some_house(rng), some_door(rng)
            for _ in range(4):
                carried_out(door, some_deed(rng, door))
            plan = house.plan
            self.assertEqual(read_plan(plan_text(plan)), plan)
            self.assertEqual(plan_text(read_plan(plan_text(plan))), plan_text(plan))
            told, other = read_house(house_text(house)), read_door(door_text(door))
            self.assertEqual((told, house_text(told)), (house, house_text(house)))
            self.assertEqual((other, door_text(other)), (door, door_text(door)))
            self.assertEqual((told.redo(), other.deeds), (False, 0))
            self.raises(Nothing(), other.undo)
            # They go on alike.
            seed = rng.random()
            ways = [random.Random(seed), random.Random(seed)]
            for _ in range(6):
                some_house_deed(ways[0], house), some_house_deed(ways[1], told)
                self.assertEqual((told.history, told.whole), (house.history, house.whole))
                deed = some_deed(rng, door)
                if deed[0] != "undo":
                    carried_out(door, deed), carried_out(other, deed)
                self.assertEqual(door, other)

    def test_beginnings_of_houses(self):
        rng = random.Random(172)
        for _ in range(40):
            house = some_house(rng)
            lines = house_text(house).split("\n")
            first = len(lines) - len(house.history)
            for many in range(len(lines) + 1):
                text = "\n".join(lines[:many])
                if many < first:
                    self.fails("house", text, many, 0) if many else self.fails("house", text, 0, 0)
                else:
                    told = read_house(text)
                    self.assertEqual(told, House.led(house.plan, house.stock, house.history[:many - first]))
                    self.assertEqual(house_text(told), text)

    def test_undone_deeds_are_not_told(self):
        house = a_house()
        house.undo()
        self.assertEqual(house_text(house).split("\n"), HOUSE_LINES[:-1])
        self.assertIs(read_house(house_text(house)).redo(), False)

    def test_changed(self):
        rng = random.Random(173)
        told = {"right": 0, "word": 0, "cause": 0}
        others = LINES + HOUSE_LINES[-4:] + DOOR_LINES + ["", "lines 1", "site aa east front 1", "hall zz least", "go zz", "come zz rider", " ", "wish"]
        for _ in range(60):
            house, door = some_house(rng), some_door(rng)
            for kind, text in (("plan", plan_text(house.plan)), ("house", house_text(house)), ("door", door_text(door)), ("house", "\n".join(HOUSE_LINES))):
                for _ in range(25):
                    changed = changed_text(rng, text, others)
                    if rng.random() < 0.3:
                        changed = changed_text(rng, changed, others)
                    try:
                        expected = plain_read(kind, changed)
                    except Wrong as wrong:
                        self.fails(kind, changed, *wrong.place, wrong.cause)
                        told["word" if wrong.cause is None else "cause"] += 1
                    else:
                        self.assertEqual(READS[kind](changed), expected)
                        told["right"] += 1
        self.assertGreater(min(told.values()), 100, told)

    def test_lines_of_plans(self):
        def plan(*changes):
            lines = list(LINES)
            for at, line in changes:
                lines[at:at + 1] = line if isinstance(line, list) else [line]
            return "\n".join(lines)
        cases = [
            ("", 0, 0), ("lines", 0, 1), ("lines 0", 0, 1), ("lines 7", 0, 1), ("lines 01", 0, 1), ("lines 3 ", 0, 2), ("lines 3 3", 0, 2), ("line 3", 0, 0),
            ("lines 3", 1, 0), ("lines 3\n", 1, 0), ("\n" + plan(), 0, 0), (" " + plan(), 0, 0), (plan() + "\n", 8, 0), (plan() + "\nlines 3", 8, 0),
            (plan() + "\nstock", 8, 0), (plan() + " ", 7, 14), (plan() + " ;", 7, 15), (plan((1, "site")), 1, 1), (plan((1, "site ")), 1, 1),
            (plan((1, "site Far west back 2")), 1, 1), (plan((1, "site far west back")), 1, 4), (plan((1, "site far west back 7")), 1, 4),
            (plan((1, "site far west back 2 2")), 1, 5), (plan((2, "site far west back 2")), 2, 1), (plan((2, "site east west back 9")), 2, 1),
            (plan((1, [])), 6, 0, NoSite("far")), (plan((1, []), (1, [])), 1, 0), (plan((2, [LINES[5]]), (5, [LINES[2]])), 3, 0),
            (plan((3, "hall")), 3, 1), (plan((3, "hall East least")), 3, 1), (plan((3, "hall east")), 3, 2), (plan((3, "hall east ")), 3, 2),
            (plan((3, "hall east by")), 3, 2), (plan((3, "hall east least least")), 3, 3), (plan((3, "hall east ( least | by )")), 3, 5),
            (plan((4, "hall east least")), 4, 1), (plan((4, "hall aa by")), 4, 1), (plan((3, "hall east order 1 : 1 ,")), 3, 7),
            (plan((3, "hall aa least")), 7, 0, NoHall("aa")), (plan((5, [])), 6, 0, NoWish("rider")), (plan((5, []), (5, [])), 5, 0),
            (plan((6, LINES[5])), 6, 1), (plan((6, "wish rider : far x")), 6, 1), (plan((5, "wish")), 5, 1), (plan((5, "wish rider")), 5, 2),
            (plan((5, "wish rider : near 0 , near 1 ; size 0 ; cart same ; price 5")), 5, 6), (plan((5, LINES[5] + " 5")), 5, 17),
            (plan((7, [])), 7, 0), (plan((7, "promise")), 7, 1), (plan((7, "promise ")), 7, 1), (plan((7, "promise -")), 7, 0, Unbounded("promise")),
            (plan((7, "promise once 3 : rider 1")), 7, 0, Unbounded("promise")), (plan((7, "promise once 3 : cat 1 rider 1 walker 1")), 7, 0, NoWish("cat")),
            (plan((7, "promise once 3 : rider 1 walker 1 ;")), 7, 9), (plan((0, "lines 1")), 7, 0, BadPlan("lines")), (plan((7, "promise - -")), 7, 2),
            (plan((7, [LINES[7], LINES[7]])), 8, 0), (plan((7, [LINES[7], ""])), 8, 0), (plan((0, [LINES[0], LINES[0]])), 1, 0),
            # What is told by then is refused ahead of what stands behind it.
            (plan((0, "lines 1")) + "\nx", 7, 0, BadPlan("lines")), (plan((6, "wish rider : x"), (0, "lines 1")), 6, 1),
        ]
        for case in cases:
            with self.subTest(case=case):
                self.fails("plan", *case)
        self.assertEqual(read_plan(plan((0, "lines 6"))).lines, 6)
        self.assertEqual(read_plan(plan((3, []), (3, []))).fittings, ())

    def test_too_many_lines_of_a_kind(self):
        sites = [f"site x{name} h g 1" for name in "abcdefghi"]
        wishes = [f"wish {name} : xa 0 ; size 0 ; cart none ; price 0" for name in "abcdefghi"]
        promise = "promise once 9 : " + " ".join(f"{name} 1" for name in "abcdefgh")
        right = ["lines 1", *sites[:8], *wishes[:8], promise]
        self.assertEqual(len(read_plan("\n".join(right)).sites), 8)
        self.fails("plan", "\n".join(["lines 1", *sites, *wishes[:8], promise]), 9, 0)
        self.fails("plan", "\n".join(["lines 1", *sites[:8], *wishes, promise]), 17, 0)
        self.fails("plan", "\n".join(["lines 1", *sites, "x"]), 9, 0)
        many = "promise " + " ; ".join(f"once 1 : {one}{two} 1" for one in "abcdefghij" for two in "ab")
        self.fails("plan", "\n".join(["lines 1", sites[0], wishes[0], many]), 3, 0, NoWish("aa"))
        self.fails("plan", "\n".join(["lines 1", sites[0], wishes[0], many + " ; once 1 : a 1"]), 3, 120)
        wide = "promise once 1 : " + " ".join(f"{one}{two} 1" for one in "abcdefghijk" for two in "abcdefghij")
        self.fails("plan", "\n".join(["lines 1", sites[0], wishes[0], wide]), 3, 0, TooMany("wishes", 100))
        self.fails("door", "\n".join(["book 2", wide, "x"]), 1, 0, TooMany("wishes", 100))

    def test_lines_of_houses(self):
        page, plan = "\n".join(HOUSE_LINES), "\n".join(LINES)
        stock = HOUSE_LINES[8]
        cases = [
            (page + "\n", 12, 0), (page + "\ncome", 12, 1), (page + "\ncome ann", 12, 2), (page + "\ncome ann rider ", 12, 3), (page + "\ncome Ann rider", 12, 1),
            (page + "\ncome ann rider1", 12, 2), (page + "\ngo", 12, 1), (page + "\ngo ", 12, 1), (page + "\ngo bob bob", 12, 2), (page + "\nundo", 12, 0),
            (page + "\ncome bob rider", 12, 0, BadHouse("there")), (page + "\ngo ann", 12, 0, NoGuest("ann")), (page + "\ncome cid cat", 12, 0, NoWish("cat")),
            (page + "\ncome bob cat", 12, 0, BadHouse("there")), (page + "\ncome self rider", 12, 1), (page + "\n" + stock, 12, 0),
            (page + "\ncome ann walker\ncome cid walker", 13, 0, Refused("places", "walker")),
            (page + "\ncome ann rider", 12, 0, Refused("purse", "rider")), (plan, 8, 0), (plan + "\n", 8, 0), (plan + "\nstock", 8, 1), (plan + "\ncome ann rider", 8, 0),
            (plan + "\n" + stock.replace("caps 1 2", "caps 1"), 8, 0, BadStock("caps")), (plan + "\n" + stock.replace("sums 8 0 9 ; caps 1 2", "sums 8 9 ; caps 1"), 8, 0, BadStock("sums")),
            (plan + "\n" + stock.replace("near", "nook"), 8, 0, BadStock("bays")), (plan + "\n" + stock.replace("west", "attic"), 8, 0, BadStock("racks")),
            (plan + "\n" + stock.replace("front", "gone"), 8, 0, BadStock("carts")), (plan + "\n" + stock + " 1", 8, 0, BadStock("caps")),
            (plan + "\n" + stock + " x", 8, 26), (plan + "\nstock bays -", 8, 3),
        ]
        for case in cases:
            with self.subTest(case=case[0][-60:]):
                self.fails("house", *case)
        limited = plan.replace("once 3 : rider 1 walker 1", "once 1 : rider 1 walker 1") + "\n" + stock
        self.fails("house", limited + "\ncome ann rider\ncome bob rider", 10, 0, Barred("promise"))
        yearly = plan.replace("year 9 : rider 1", "year 0 : rider 1") + "\n" + stock
        self.fails("house", yearly + "\ncome ann rider", 9, 0, Barred("year"))

    def test_lines_of_doors(self):
        def door(at, line):
            return "\n".join(DOOR_LINES[:at] + ([line] if isinstance(line, str) else line) + DOOR_LINES[at + 1:])
        calendar = DOOR_LINES[2]
        cases = [
            ("", 0, 0), ("book", 0, 1), ("book 2 3", 1, 0), ("\n".join(DOOR_LINES[:2]), 2, 0), ("\n".join(DOOR_LINES) + "\n", 3, 0),
            ("\n".join(DOOR_LINES) + "\nbook 2", 3, 0), (door(0, "book 2 / 2"), 0, 1), (door(0, "book 2 / 2 x"), 0, 4), (door(0, "book 3 2"), 0, 2),
            (door(0, "book 2 3 "), 0, 3), (door(0, "book 2 /"), 0, 3), (door(1, "promise"), 1, 1), (door(1, "promise once 2 : adult 1 ?"), 1, 6),
            (door(2, "calendar"), 2, 1), (door(2, "calendar rooms 3 days 0 to"), 2, 6), (door(2, calendar + " ;"), 2, 14), (door(2, calendar + " x"), 2, 13),
            (door(2, "calendar rooms 3 days 5 to 5"), 2, 0, BadCalendar("after")), (door(2, calendar.replace("0 to 3", "3 to 3")), 2, 0, BadStay("after")),
            (door(2, calendar.replace("to 5", "to 401")), 2, 0, TooMany("days", 400)), (door(2, calendar.replace("0 to 3", "4 to 6")), 2, 0, BadCalendar("outside")),
            (door(2, calendar + " ; ann adult 2 to 5"), 2, 0, BadCalendar("twice")), (door(2, calendar.replace("rooms 3", "rooms 0")), 2, 0, BadCalendar("full")),
            (door(2, calendar.replace("0 to 3", "0 to 4")), 2, 0, Barred("let")), (door(2, calendar.replace("0 to 3", "1 to 3")), 2, 0, Barred("dead")),
            (door(2, calendar.replace("adult", "cat")), 2, 0, Barred("promise")), (door(1, "promise once 2 : adult 1 ; year 0 : adult 1"), 2, 0, Barred("year")),
            (door(1, "promise once 0 : adult 1"), 2, 0, Barred("promise")), (door(0, "book -"), 2, 0, Barred("let")), (door(1, DOOR_LINES[0]), 1, 0),
            (door(1, [DOOR_LINES[1], DOOR_LINES[1]]), 2, 0), (door(1, [""]), 1, 0),
        ]
        for case in cases:
            with self.subTest(case=case):
                self.fails("door", *case)
        self.assertEqual(len(read_door(door(2, "calendar rooms 0 days 0 to 400"))), 0)

    def test_causes_are_errors_of_the_package(self):
        try:
            read_plan("lines 1\nsite near east front 1\nwish rider : far 0 ; size 0 ; cart none ; price 0\npromise once 2 : rider 1")
        except BadText as error:
            self.assertIsInstance(error.__cause__, StayError)
            self.assertEqual(error.__cause__.name, "far")


def read_and_written(read, write, thing):
    """The text of what is read of the text of a thing."""
    return write(read(write(thing)))


if __name__ == "__main__":
    unittest.main()
