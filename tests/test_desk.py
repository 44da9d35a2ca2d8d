"""Desks: lines and their answers, beside an inn, one by one and several at once, with lines that are none."""

import random
import re
import unittest

from stayhouse.books import Book
from stayhouse.calendars import Sale
from stayhouse.desk import Desk
from stayhouse.door import Door
from stayhouse.errors import BadHouse, BadLine, BadRule, Barred, NoGuest, Nothing, NoWish, Refused, StayError, TooMany
from stayhouse.fittings import By
from stayhouse.inn import Inn
from stayhouse.judge import judge
from stayhouse.limits import Limit, YearLimit
from stayhouse.promises import Promise
from stayhouse.stays import Stay

from helpers import ANY, StayTest
from plain_nights import NAMES
from test_inn import BOOK, RICH, STOCK, TOWN, an_inn, carried_out, shown, some_deed, some_inns, undone

FORMS = {"sell": "gws", "cancel": "g", "come": "g", "go": "g", "dawn": "", "undo": "", "today": "", "due": "", "there": "", "why": "ws", "offers": "w",
         "bays": "", "carts": "", "now": "", "year": "", "left": "", "row": "", "calendar": "", "judge": ""}
RIGHT = ["sell ann rider 1 to 2", "cancel ann", "come ann", "go ann", "dawn", "undo", "today", "due", "there", "why rider 1 to 2", "offers rider", "bays",
         "carts", "now", "year", "left", "row", "calendar", "judge"]


def plain_wrong(line):
    """The index of the first word of any value that cannot stand; None for a line."""
    if not isinstance(line, str):
        return 0
    words = line.split(" ") + [""]
    if words[0] not in FORMS:
        return 0
    at = 1
    for kind in FORMS[words[0]]:
        if kind in "gw":
            if not re.fullmatch("[a-z]{1,8}", words[at]) or words[at] == "self":
                return at
            at += 1
            continue
        for place in (at, at + 2):
            if place > at and words[at + 1] != "to":
                return at + 1
            if not re.fullmatch("0|-?[1-9][0-9]*", words[place]) or len(words[place].strip("-")) > 1000:
                return place
        if int(words[at + 2]) <= int(words[at]):
            return at + 2
        at += 3
    return None if at == len(words) - 1 else at


def names_text(names, between=" "):
    return between.join(names) or "-"


def plain_answer(inn, line):
    """What an inn that is led by hand answers to a line."""
    kind, *told = line.split(" ")
    if "s" in FORMS[kind]:
        told[-3:] = [Stay(int(told[-3]), int(told[-1]))]
    house, door = inn.house_now(), inn.door_now()
    if kind in ("why", "offers") and told[0] not in house.plan:
        return f"no {told[0]}"
    if kind in ("sell", "cancel", "come", "go", "dawn", "undo"):
        done = carried_out(inn, (kind, *told))
        if isinstance(done, (NoGuest, NoWish)):
            return f"no {done.name}"
        if isinstance(done, Barred):
            return f"barred {done.word}"
        if isinstance(done, Refused):
            return f"refused {done.part}"
        if isinstance(done, Nothing):
            return "nothing"
        if isinstance(done, StayError):
            raise done
        if kind in ("come", "go"):
            return " ".join("-" if part is None else str(part) for part in (done.site, done.locker, done.gate, done.line))
        return {"sell": "ok", "cancel": "ok", "undo": done}.get(kind) or names_text(done)
    if kind == "why":
        paper = door.why(*told)
        return "open" if paper else f"closed {paper.word}"
    if kind == "judge":
        paper = judge(house.plan, house.stock)
        return "safe" if paper else f"unsafe {paper.part} : {' '.join(str(event) for event in paper.row)}"
    return {"today": str(inn.today), "due": names_text(inn.due), "there": names_text(inn.present), "bays": str(house.free_bays), "carts": str(house.carts_now),
            "now": str(house.now), "year": str(house.so_far), "left": names_text([str(amount) for amount in house.left]), "row": str(inn.row_now()),
            "calendar": str(inn.calendar_now())}.get(kind) or names_text([str(stay) for stay in door.offers(*told)], " , ")


def some_line(rng, inn):
    """A line, mostly of a deed that can be carried out."""
    if rng.random() < 0.6:
        deed = some_deed(rng, inn)
        return " ".join(["sell" if deed[0] == "item" else deed[0]] + [str(part) for part in deed[1:]])
    kind = rng.choice(list(FORMS))
    first = inn.today + rng.randint(-1, 3)
    parts = {"g": [rng.choice(NAMES[:9])], "w": [rng.choice(inn.house_now().plan.names + ("nobody",))], "s": [str(first), "to", str(first + rng.randint(1, 3))]}
    return " ".join([kind] + [word for form in FORMS[kind] for word in parts[form]])


class DesksTest(StayTest):
    def test_made(self):
        for value in ANY + [Inn, Desk, TOWN, Door(BOOK, TOWN.promise, 1, 0, 2)]:
            self.raises(BadHouse("inn"), Desk, value)
        inn = an_inn()
        inn["ann"] = ("rider", Stay(0, 1))
        desk = Desk(inn=inn)
        # The desk has a twin: nothing can be taken back, and what happens here does not happen there.
        self.assertEqual((desk.inn_now(), desk.inn_now().deeds, desk("undo")), (inn, 0, "nothing"))
        inn["bob"] = ("rider", Stay(0, 1))
        self.assertEqual(desk.say("due"), "ann")
        desk.inn_now().come("ann")
        self.assertEqual((desk("there"), desk.say(line="come ann"), inn.present), ("-", "near 0 front 1", ()))

    def test_beside_an_inn(self):
        met = {}
        for inn, _, rng in some_inns(181, 50):
            desk = Desk(inn)
            for _ in range(30):
                line = some_line(rng, inn)
                expected = plain_answer(inn, line)
                self.assertEqual(rng.choice([desk, desk.say])(line), expected, line)
                self.assertEqual(desk.inn_now(), inn)
                for key in (line.split(" ")[0], expected.split(" ")[0]):
                    met[key] = met.get(key, 0) + 1
            self.assertEqual(desk.run(), [])
        self.assertGreaterEqual(set(met), {*FORMS, "ok", "no", "barred", "refused", "open", "closed", "unsafe", "nothing", "-"})

    def test_several_lines(self):
        for inn, _, rng in some_inns(182, 30):
            desk = Desk(inn)
            for _ in range(4):
                lines, expected = [], []
                for _ in range(6):
                    lines.append(some_line(rng, inn))
                    expected.append(plain_answer(inn, lines[-1]))
                before, past = shown(desk.inn_now()), taken_back(desk)
                for wrong in ("", "leave ann", None, "come", "come ann ann", 5, "sell ann rider 1 to 1"):
                    at = rng.randint(0, len(lines))
                    self.raises(BadLine(plain_wrong(wrong)), desk.run, *lines[:at], wrong, *lines[at:])
                    self.assertEqual((shown(desk.inn_now()), taken_back(desk)), (before, past))
                told = desk.run(*lines)
                self.assertEqual(told, expected)
                self.assertIs(type(told), list)
                self.assertEqual(desk.inn_now(), inn)

    def test_wrong_lines(self):
        desk = Desk(an_inn())
        for value in ANY:
            self.raises(BadLine(0), desk, value)
            self.raises(BadLine(0), desk.say, value)
            self.raises(BadLine(0), desk.run, value)
        rng = random.Random(183)
        extra = ["", "?", "self", "-1", "00", "0", "1", "2", "to", "ann", "rider", "a\n", "abcdefghi", "Ann", "1" * 1001, "-0", "3", "self"]
        wrong = 0
        for line in RIGHT:
            words = line.split(" ")
            lines = [" ".join(words[:at]) for at in range(len(words) + 1)]
            for at in range(len(words) + 1):
                for word in extra:
                    lines.append(" ".join(words[:at] + [word] + words[at:]))
                    lines.append(" ".join(words[:at] + [word] + words[at + 1:]))
                lines.append(" ".join(words[:at] + words[at + 1:]))
                lines.append(" ".join(words[:at] + rng.sample(words[at:], len(words[at:]))))
            for told in lines:
                before = desk.inn_now()
                expected = plain_wrong(told)
                if expected is None:
                    plain_answer(before, told)
                    desk(told)
                    desk = Desk(an_inn())
                else:
                    wrong += 1
                    self.raises(BadLine(expected), desk, told)
                    self.assertEqual(desk.inn_now(), before)
        self.assertGreater(wrong, 500)

    def test_words_that_cannot_stand(self):
        desk = Desk(an_inn())
        for line, word in {"": 0, "sale": 0, " dawn": 0, "dawn ": 1, "dawn dawn": 1, "Dawn": 0, "dawn\n": 0, "come": 1, "come ": 1, "come self": 1, "come ann ": 2,
                           "sell ann": 2, "sell ann rider": 3, "sell ann rider 1": 4, "sell ann rider 1 to": 5, "sell ann rider 1 2": 4, "sell ann rider 2 to 1": 5,
                           "sell ann rider 2 to 2": 5, "sell ann rider 2 to x": 5, "sell ann rider 02 to 3": 3, "sell ann rider 2 to 3 4": 6, "sell  ann": 1,
                           "why rider 3 to 3": 4, "why rider 3 to -3": 4, "offers": 1, "offers rider 1": 2, "judge it": 1, "why": 1,
                           f"why rider 1 to {'1' * 1001}": 4}.items():
            with self.subTest(line=line):
                self.raises(BadLine(word), desk, line)
        self.assertEqual(desk(f"why rider 1 to {'1' * 1000}"), "closed outside")
        self.assertEqual(desk(f"sell ann rider -{'1' * 1000} to 1"), "barred past")

    def test_answers(self):
        desk = Desk(Inn(TOWN, STOCK, Book([1, 2]), 3, 0, 3))
        self.assertEqual(desk.run("calendar", "row", "due", "there", "today", "now", "year", "bays", "carts", "left", "offers rider", "undo", "judge"),
                         ["rooms 3 days 0 to 3", "-", "-", "-", "0", "-", "-", "far 2 near 1", "front 2", "8",
                          "0 to 1 , 0 to 2 , 1 to 2 , 1 to 3 , 2 to 3", "nothing", "unsafe carts : rider rider"])
        self.assertEqual(desk.run("sell ann rider 0 to 2", "sell bob walker 0 to 1", "sell cid rider 0 to 1", "due", "come ann", "come bob", "come cid", "there"),
                         ["ok", "ok", "ok", "ann bob cid", "near 0 front 1", "far 3 - -", "refused carts", "ann bob"])
        self.assertEqual(desk.run("go cid", "cancel ann", "come ann", "cancel dan", "sell dan rider 0 to 1", "why walker 0 to 3", "offers walker", "sell ann rider 1 to 2"),
                         ["no cid", "barred there", "barred there", "no dan", "barred full", "closed let", "1 to 2 , 1 to 3 , 2 to 3", "barred name"])
        self.assertEqual(desk.run("dawn", "go ann", "dawn", "dawn", "today", "row", "year", "now", "left"),
                         ["bob", "near 0 front 1", "-", "barred end", "2", "rider walker 1 0", "rider 1 walker 1", "-", "3"])
        self.assertEqual(desk.run("undo", "undo", "undo", "undo", "undo", "undo", "undo", "undo", "undo"),
                         ["dawn", "go", "dawn", "come", "come", "sell", "sell", "sell", "nothing"])
        self.assertEqual(desk.run("sell ann nobody 0 to 1", "why nobody 0 to 1", "offers nobody", "sell ann rider -1 to 1", "come ann"),
                         ["no nobody", "no nobody", "no nobody", "barred past", "no ann"])
        self.assertEqual(Desk(Inn(TOWN, STOCK, Book.none(), 0, 0, 3)).run("offers rider", "why rider 0 to 1"), ["-", "closed let"])

    def test_safe(self):
        self.assertEqual(Desk(an_inn())("judge"), "safe")
        self.assertEqual(Desk(an_inn(RICH.with_sum(1, 44)))("judge"), "unsafe purse : rider rider rider 0 rider 1 rider 2 rider 3 rider 4 rider 5 rider")

    def test_other_errors_go_on(self):
        plan = TOWN.with_promise(Promise(Limit(10 ** 6, rider=1, walker=1)))
        inn = Inn(plan, RICH, BOOK, 300, 0, 9)
        for name in NAMES[:200]:
            inn.sell(name, "rider", Stay(3, 4))
        desk = Desk(inn)
        before = shown(desk.inn_now())
        for line in ("sell zz rider 1 to 2", "why rider 1 to 2", "offers rider"):
            self.raises(TooMany("sales", 200), desk, line)
            self.raises(TooMany("sales", 200), desk.run, "dawn", line)
        self.assertEqual(desk.run("why nobody 0 to 1", "offers nobody", "sell zz nobody 0 to 1"), ["no nobody"] * 3)
        self.assertEqual((shown(desk.inn_now()), desk("undo")), (before, "nothing"))
        great = Inn(TOWN.with_promise(Promise(Limit(1, rider=1, walker=1), YearLimit(10 ** 4, rider=1))), RICH, BOOK, 3, 0, 9)
        self.raises(TooMany("knots", 20000), Desk(great), "judge")

    def test_fittings_that_fail(self):
        def fails(free, size):
            raise ZeroDivisionError()
        for work, error in ((lambda free, size: 1, BadRule), (fails, ZeroDivisionError)):
            inn = Inn(TOWN.with_fitting("east", By(work)), RICH, BOOK, 3, 0, 5)
            desk = Desk(inn)
            desk.run("sell ann rider 0 to 1", "sell bob walker 0 to 1")
            before, past = shown(desk.inn_now()), taken_back(desk)
            with self.assertRaises(error):
                desk.run("come ann", "dawn", "undo", "come bob")
            with self.assertRaises(error):
                desk("come bob")
            self.assertEqual((shown(desk.inn_now()), taken_back(desk)), (before, past))
            self.assertEqual(desk.inn_now()["bob"], Sale("bob", "walker", Stay(0, 1)))


def taken_back(desk):
    """The answers to `undo`, as often as there is something to take back, and all that is shown behind each; in a copy."""
    return undone(desk.inn)


if __name__ == "__main__":
    unittest.main()
