"""Let rows under way: what a promise leaves behind each event, and how rows go on."""

from stayhouse.weighing import bounds_of, column_of, fits, rests_behind


class Frame:
    """A promise made ready for rows: what each wish that can come takes of its bounds.

    A coming takes from all limits; a going gives back to the limits at once alone.
    """

    def __init__(self, promise):
        limits = promise.limits
        columns = {name: column_of(name, limits) for name in promise.comers}
        self.names = promise.comers
        self.bounds = bounds_of(limits)
        self.columns = columns
        self.given = {name: part_of(columns[name], limits, False) for name in columns}
        # Wishes that weigh the same in a year are alike there: one of them is enough.
        yearly = {part_of(columns[name], limits, True): True for name in columns}
        self.yearly = list(yearly)

    def lets(self, name, rests):
        """Whether one more guest of a wish can come."""
        return name in self.columns and fits(self.columns[name], rests)

    def rests_with(self, name, rests):
        """The rests behind a coming."""
        return rests_behind(self.columns[name], rests, 1)

    def rests_without(self, name, rests):
        """The rests behind a going."""
        return rests_behind(self.given[name], rests, -1)


def part_of(column, limits, yearly):
    """The part of a column for the limits in a year, or for those at once."""
    return tuple([(at, weight) for at, weight in column if limits[at].YEARLY == yearly])


class Course:
    """A let row under way: its events, the pairs (number, name) of those who are there, and the rests."""

    def __init__(self, events, guests, rests):
        self.events = events
        self.guests = guests
        self.rests = rests

    def coming(self, frame, name):
        """The Course behind a coming."""
        came = len([event for event in self.events if isinstance(event, str)])
        return Course(self.events + (name,), self.guests + ((came, name),), frame.rests_with(name, self.rests))

    def going(self, frame, guest):
        """The Course behind the going of one of the guests."""
        number, name = guest
        staying = tuple([other for other in self.guests if other != guest])
        return Course(self.events + (number,), staying, frame.rests_without(name, self.rests))


def courses_behind(frame, course, many):
    """The courses one event further that can become many events long: comings, by names, ahead of goings."""
    comings = [course.coming(frame, name) for name in frame.names if frame.lets(name, course.rests)]
    goings = [course.going(frame, guest) for guest in course.guests]
    return [further for further in comings + goings if can_reach(frame, further, many)]


def can_reach(frame, course, many):
    """Whether some let row of many events begins as the course does.

    All who are there can go, and then guests come and go one by one, as long as the year lets them:
    no row goes on for longer.
    """
    lacking = many - len(course.events) - len(course.guests)
    return can_come_yet(frame.yearly, course.rests, (lacking + 1) // 2)


def can_come_yet(columns, rests, many):
    """Whether so many more guests can come in the year."""
    if many <= 0:
        return True
    for at, column in enumerate(columns):
        if fits(column, rests) and can_come_yet(columns[at:], rests_behind(column, rests, 1), many - 1):
            return True
    return False
