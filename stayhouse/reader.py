"""Reads texts of plans, houses and doors, line by line.

What a line tells is read by a function of its words; it raises BadText(0, word) for a word that cannot stand, and
any other error of the package for what is refused.
"""

from stayhouse.books import Book
from stayhouse.calendars import Calendar
from stayhouse.door import Door
from stayhouse.errors import BadText, StayError
from stayhouse.fittings import Fitting
from stayhouse.house import House
from stayhouse.plans import MOST_SITES, MOST_WISHES, Plan
from stayhouse.promises import Promise
from stayhouse.sites import MOST_LINES, Site
from stayhouse.stock import Stock
from stayhouse.wishes import Wish
from stayhouse.words import end_at, name_at, number_at, stand_at


class Page:
    """The lines of a text, and the index of the one that is read next; it changes."""

    def __init__(self, text):
        if not isinstance(text, str):
            raise BadText(0, 0)
        self.told = text.split("\n")
        self.at = 0

    def words(self):
        """The words of the line; none behind the last line."""
        return self.told[self.at].split(" ") if self.at < len(self.told) else []

    def starts(self, word):
        """Whether the line starts with a word."""
        return self.words()[:1] == [word]

    def take(self, tell):
        """What a function tells of the words of the line; the next line is read behind it."""
        try:
            told = tell(self.words())
        except BadText as wrong:
            raise BadText(self.at, wrong.word) from None
        except StayError as why:
            raise BadText(self.at, 0) from why
        self.at += 1
        return told

    def close(self):
        """No line can stand behind the last one that was read."""
        if self.at < len(self.told):
            raise BadText(self.at, 0)


def read_plan(text):
    """The Plan that a text tells."""
    page = Page(text)
    plan = plan_on(page)
    page.close()
    return plan


def read_house(text):
    """The House that a text tells."""
    page = Page(text)
    plan = plan_on(page)
    house = page.take(lambda words: house_told(words, plan))
    while page.starts("come") or page.starts("go"):
        page.take(lambda words: carry_out(words, house))
    page.close()
    return house


def read_door(text):
    """The Door that a text tells."""
    page = Page(text)
    book = page.take(lambda words: told_behind("book", words, 1, lambda rest: Book.read(rest)))
    promise = page.take(lambda words: told_behind("promise", words, 1, lambda rest: Promise.read(rest)))
    door = page.take(lambda words: door_told(words, book, promise))
    page.close()
    return door


def told_behind(kind, words, at, read):
    """What the words of a line of a kind tell from an index on; it is read from their text."""
    stand_at(words, 0, kind)
    try:
        return read(" ".join(words[at:]))
    except BadText as wrong:
        raise BadText(0, at + wrong.word) from None


def plan_on(page):
    """The Plan that the next lines tell."""
    lines = page.take(lines_told)
    sites = [page.take(lambda words: site_told(words, ""))]
    while page.starts("site") and len(sites) < MOST_SITES:
        last = sites[-1].name
        sites.append(page.take(lambda words: site_told(words, last)))
    fittings = {}
    last = ""
    while page.starts("hall"):
        last, fitting = page.take(lambda words: fitting_told(words, last))
        fittings[last] = fitting
    wishes = [page.take(lambda words: wish_told(words, []))]
    while page.starts("wish") and len(wishes) < MOST_WISHES:
        names = [wish.name for wish in wishes]
        wishes.append(page.take(lambda words: wish_told(words, names)))
    return page.take(lambda words: plan_told(words, wishes, sites, fittings, lines))


def lines_told(words):
    """The number of lines of the purse that a line tells."""
    stand_at(words, 0, "lines")
    lines = number_at(words, 1, 1, MOST_LINES)
    end_at(words, 2)
    return lines


def site_told(words, last):
    """The Site that a line tells, its name being above the last one."""
    stand_at(words, 0, "site")
    if name_at(words, 1) <= last:
        raise BadText(0, 1)
    return told_behind("site", words, 1, lambda rest: Site.read(rest))


def fitting_told(words, last):
    """The pair of the hall and its Fitting that a line tells, the hall being above the last one."""
    stand_at(words, 0, "hall")
    hall = name_at(words, 1)
    if hall <= last:
        raise BadText(0, 1)
    return hall, told_behind("hall", words, 2, lambda rest: Fitting.read(rest))


def wish_told(words, names):
    """The Wish that a line tells, its name being none of those that are told."""
    stand_at(words, 0, "wish")
    if name_at(words, 1) in names:
        raise BadText(0, 1)
    return told_behind("wish", words, 1, lambda rest: Wish.read(rest))


def plan_told(words, wishes, sites, fittings, lines):
    """The Plan with these parts and the promise that a line tells."""
    promise = told_behind("promise", words, 1, lambda rest: Promise.read(rest))
    return Plan(wishes, sites, promise, fittings, lines)


def house_told(words, plan):
    """The House with a plan and the stock that a line tells."""
    return House(plan, told_behind("stock", words, 1, lambda rest: Stock.read(rest)))


def carry_out(words, house):
    """Carries out the deed that a line tells."""
    guest = name_at(words, 1)
    if words[0] == "go":
        end_at(words, 2)
        house.go(guest)
    else:
        wish = name_at(words, 2)
        end_at(words, 3)
        house.come(guest, wish)


def door_told(words, book, promise):
    """The Door with a book, a promise, and the calendar that a line tells."""
    return Door.of(book, promise, told_behind("calendar", words, 1, lambda rest: Calendar.read(rest)))
