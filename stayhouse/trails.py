"""Trails: the least rows that lead to knots, told step by step.

Guests of one *slot* (a wish, a site, a locker) are alike, so in a least row the one of them goes who came first.
"""


class Coming:
    """The coming of a guest, behind the one ahead of it of the same slot."""

    def __init__(self, number, before):
        self.number = number
        self.before = before
        self.ordinal = 0 if before is None else before.ordinal + 1
        # A second way back, over many comings at once: it keeps the way to any of them short.
        self.jump = self if before is None else far_before(before)


def far_before(before):
    """Where the second way back leads from behind a coming."""
    far = before.jump
    if before.ordinal - far.ordinal == far.ordinal - far.jump.ordinal:
        return far.jump
    return before


def coming_at(last, ordinal):
    """The coming of an ordinal, among those of the slot of the last one."""
    coming = last
    while coming.ordinal > ordinal:
        coming = coming.jump if coming.jump.ordinal >= ordinal else coming.before
    return coming


class Trail:
    """The row that leads to a knot: one event behind the trail ahead of it."""

    def __init__(self, before, event, came, lasts):
        self.before = before
        self.event = event
        # How many came, and the last coming of each slot.
        self.came = came
        self.lasts = lasts

    def with_coming(self, name, slot):
        """The Trail behind a coming."""
        coming = Coming(self.came, self.lasts.get(slot))
        return Trail(self, name, self.came + 1, {**self.lasts, slot: coming})

    def with_going(self, number):
        """The Trail behind the going of the guest of a number."""
        return Trail(self, number, self.came, self.lasts)

    def leaver(self, slot, many):
        """The number of the guest who goes first of so many who are there of a slot."""
        last = self.lasts[slot]
        return coming_at(last, last.ordinal + 1 - many).number

    def told_row(self):
        """The row, a tuple."""
        events = []
        trail = self
        while trail.before is not None:
            events.append(trail.event)
            trail = trail.before
        return tuple(events[::-1])


def no_trail():
    """The Trail of the row without events."""
    return Trail(None, None, 0, {})
