"""Rows of comings and goings."""

from stayhouse.checks import is_name, is_sequence, is_within
from stayhouse.counts import counts_in
from stayhouse.courses import Course, Frame, can_reach, courses_behind
from stayhouse.errors import BadName, BadNumber, BadRow, BadText, TooMany
from stayhouse.promises import check_promise
from stayhouse.words import end_at, integer_of, word_at, words_of

MOST_EVENTS = 20000
LONGEST = 12


def wrong_at(events):
    """The index of the first event that is neither a name nor the number of a guest who is there; None without one."""
    came = 0
    there = {}
    for at, event in enumerate(events):
        if is_name(event):
            there[came] = True
            came += 1
        elif is_within(event, 0, came) and event in there:
            del there[event]
        else:
            return at
    return None


def counts_of(names):
    """How often each name stands in a list of names."""
    numbers = {}
    for name in names:
        numbers[name] = numbers.get(name, 0) + 1
    return counts_in(numbers)


def broken_at(promise, events):
    """The index of the first event of a row behind which it is not let; None if it is let."""
    frame = Frame(promise)
    rests = frame.bounds
    came = []
    for at, event in enumerate(events):
        if isinstance(event, str):
            if not frame.lets(event, rests):
                return at
            rests = frame.rests_with(event, rests)
            came.append(event)
        else:
            rests = frame.rests_without(came[event], rests)
    return None


class Row:
    """A row of events: a name comes, the guest of a number goes."""

    def __init__(self, *events):
        wrong = wrong_at(events)
        if wrong is not None:
            raise BadRow(wrong)
        if len(events) > MOST_EVENTS:
            raise TooMany("events", MOST_EVENTS)
        comings = [event for event in events if isinstance(event, str)]
        gone = {event: True for event in events if not isinstance(event, str)}
        self.events = events
        self.comings = tuple(comings)
        self.there = tuple([number for number in range(len(comings)) if number not in gone])
        self.standing = counts_of([comings[number] for number in self.there])
        self.year = counts_of(comings)

    @staticmethod
    def of(events):
        """The Row of a list or tuple."""
        return row_in(events)

    @classmethod
    def read(cls, text):
        """The Row that a text tells."""
        words = words_of(text)
        if word_at(words, 0) == "-":
            end_at(words, 1)
            return row_in([])
        events = [event_of(word) for word in words]
        wrong = wrong_at(events[:MOST_EVENTS])
        if wrong is not None:
            raise BadText(0, wrong)
        end_at(words, MOST_EVENTS)
        return row_in(events)

    def __len__(self):
        return len(self.events)

    def __iter__(self):
        return iter(self.events)

    def __add__(self, event):
        return row_in(self.events + (event,))

    def front(self, many):
        """The Row of the first events."""
        if not is_within(many, 0, len(self.events)):
            raise BadNumber(many)
        return row_in(self.events[:many])

    def only(self, *names):
        """The Row of the events of guests of these wishes alone."""
        for name in names:
            if not is_name(name):
                raise BadName(name)
        events = []
        anew = {}
        came = 0
        many = 0
        for event in self.events:
            if isinstance(event, str):
                if event in names:
                    anew[came] = many
                    many += 1
                    events.append(event)
                came += 1
            elif event in anew:
                events.append(anew[event])
        return row_in(events)

    def __eq__(self, other):
        return isinstance(other, Row) and self.events == other.events

    def broken(self, promise):
        """The index of the first event behind which the row is not let; None if it is let."""
        check_promise(promise)
        return broken_at(promise, self.events)

    def is_let(self, promise):
        """Whether a promise lets the row."""
        return self.broken(promise) is None

    def __str__(self):
        if not self.events:
            return "-"
        return " ".join([str(event) for event in self.events])


def row_in(events):
    """The Row of any value that is a list or tuple."""
    if not is_sequence(events):
        raise BadRow("events")
    return Row(*events)


def event_of(word):
    """The event that a word tells: a name, a number; None for any other word."""
    return word if is_name(word) else integer_of(word)


def rows(promise, many):
    """All let rows of just many events, ordered by their events."""
    check_promise(promise)
    if not is_within(many, 0, LONGEST):
        raise BadNumber(many)
    frame = Frame(promise)
    begin = Course((), (), frame.bounds)
    waiting = [begin] if can_reach(frame, begin, many) else []
    while waiting:
        course = waiting.pop()
        if len(course.events) == many:
            yield Row(*course.events)
        else:
            # The last one is looked at first: so they wait in the order from the greatest to the least.
            waiting.extend(courses_behind(frame, course, many)[::-1])
