"""Plain reading of texts: where they first fail, and why; told line by line."""

import re

from stayhouse.books import Book
from stayhouse.calendars import Calendar
from stayhouse.door import Door
from stayhouse.errors import BadText, StayError
from stayhouse.fittings import Fitting
from stayhouse.house import House
from stayhouse.plans import Plan
from stayhouse.promises import Promise
from stayhouse.sites import Site
from stayhouse.stock import Stock
from stayhouse.wishes import Wish


class Wrong(Exception):
    """A line and a word that cannot stand, and the error that refuses a line."""

    def __init__(self, line, word, cause=None):
        super().__init__(line, word, cause)
        self.place, self.cause = (line, word), cause


def is_name(word):
    return re.fullmatch("[a-z]{1,8}", word) is not None and word != "self"


def rest_read(kind, words, at, line):
    """What the words from an index on tell to `read` of a class."""
    try:
        return kind.read(" ".join(words[at:]))
    except BadText as wrong:
        raise Wrong(line, at + wrong.word)
    except StayError as error:
        raise Wrong(line, 0, error)


def refused(line, work):
    """What work returns; an error is told at the line."""
    try:
        return work()
    except StayError as error:
        raise Wrong(line, 0, error)


def following(state, kinds, first):
    """Whether a line that starts with a word can stand in a state, the list of the first words so far."""
    last = state[-1] if state else ""
    order = {"": ["lines"], "lines": ["site"], "site": ["site", "hall", "wish"], "hall": ["hall", "wish"], "wish": ["wish", "promise"],
             "promise": ["stock"], "stock": ["come", "go"], "come": ["come", "go"], "go": ["come", "go"]}
    if kinds == "door":
        order = {"": ["book"], "book": ["promise"], "promise": ["calendar"], "calendar": []}
    if kinds == "plan":
        order["promise"] = []
    return first in order[last] and not (first in ("site", "wish") and state.count(first) == 8)


def plain_read(kinds, text):
    """The Plan, the House, the Door that a text tells; raises Wrong."""
    if not isinstance(text, str):
        raise Wrong(0, 0)
    state, told = [], {"site": [], "hall": {}, "wish": []}
    lines = text.split("\n")
    for at, line in enumerate(lines):
        words = line.split(" ")
        if not following(state, kinds, words[0]):
            raise Wrong(at, 0)
        plain_line(kinds, words, at, told)
        state.append(words[0])
    ends = {"plan": ["promise"], "house": ["stock", "come", "go"], "door": ["calendar"]}
    if not state or state[-1] not in ends[kinds]:
        raise Wrong(len(lines), 0)
    return told[kinds]


def plain_line(kinds, words, at, told):
    """Reads one line."""
    kind = words[0]
    name = words[1] if len(words) > 1 else ""
    if kind == "lines":
        if name not in ("1", "2", "3", "4", "5", "6"):
            raise Wrong(at, 1)
        if len(words) > 2:
            raise Wrong(at, 2)
        told["lines"] = int(name)
    elif kind == "site":
        if is_name(name) and any(name <= site.name for site in told["site"]):
            raise Wrong(at, 1)
        told["site"].append(rest_read(Site, words, 1, at))
    elif kind == "hall":
        if not is_name(name) or any(name <= hall for hall in told["hall"]):
            raise Wrong(at, 1)
        told["hall"][name] = rest_read(Fitting, words, 2, at)
    elif kind == "wish":
        if any(name == wish.name for wish in told["wish"]):
            raise Wrong(at, 1)
        told["wish"].append(rest_read(Wish, words, 1, at))
    elif kind == "promise":
        told["promise"] = rest_read(Promise, words, 1, at)
        if kinds != "door":
            told["plan"] = refused(at, lambda: Plan(told["wish"], told["site"], told["promise"], told["hall"], told["lines"]))
    elif kind == "stock":
        stock = rest_read(Stock, words, 1, at)
        told["house"] = refused(at, lambda: House(told["plan"], stock))
    elif kind in ("come", "go"):
        for place in range(1, 3 if kind == "come" else 2):
            if len(words) <= place or not is_name(words[place]):
                raise Wrong(at, place)
        if len(words) > (3 if kind == "come" else 2):
            raise Wrong(at, 3 if kind == "come" else 2)
        refused(at, lambda: getattr(told["house"], kind)(*words[1:]))
    elif kind == "book":
        told["book"] = rest_read(Book, words, 1, at)
    else:
        calendar = rest_read(Calendar, words, 1, at)
        told["door"] = refused(at, lambda: Door.of(told["book"], told["promise"], calendar))


def changed_text(rng, text, others):
    """A text in which a word or a line is put in, left out, doubled, exchanged or changed."""
    lines = text.split("\n")
    if rng.random() < 0.4:
        return "\n".join(changed_list(rng, lines, others))
    at = rng.randrange(len(lines))
    words = lines[at].split(" ")
    more = [word for line in lines for word in line.split(" ")] + ["", "?", "self", "-1", "00", "0", "1", "2", "9", ";", ":", ",", "-", "a\n", "none",
                                                                   "99", "near", "far", "east", "abcdefgh", "site", "wish", "come", "go"]
    lines[at] = " ".join(changed_list(rng, words, more))
    return "\n".join(lines)


def changed_list(rng, parts, others):
    """A list with one part put in, left out, doubled, exchanged with another one, or changed."""
    kind, at, to = rng.randrange(5), rng.randrange(len(parts)), rng.randrange(len(parts))
    parts = list(parts)
    if kind == 0:
        parts.insert(rng.randint(0, len(parts)), rng.choice(others))
    elif kind == 1:
        del parts[at]
    elif kind == 2:
        parts.insert(at, parts[at])
    elif kind == 3:
        parts[at], parts[to] = parts[to], parts[at]
    else:
        parts[at] = rng.choice(others)
    return parts
