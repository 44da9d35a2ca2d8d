"""Doubles: two houses that stand beside each other in one row, refusals and all.

A guest who was refused holds nothing, but counts in the standing until he goes. What both houses will ever do
hangs on who is there and what he holds in both, on who came of the counted wishes, and on both wholes.
"""

from stayhouse.courses import Frame
from stayhouse.knots import one_fewer, one_more
from stayhouse.parts import Parts, parts_at, whole_of


class Side:
    """One of two houses: its wholes, each with a number, and what becomes of them, worked out once."""

    def __init__(self, plan, stock):
        first = whole_of(Parts(plan, stock))
        self.scheme = plan
        self.goods = stock
        self.wholes = [first]
        self.numbers = {first: 0}
        # By the number of a whole and the name of a wish; by this number and a thing.
        self.behind_comings = {}
        self.behind_goings = {}

    def place_behind(self, parts):
        """The number of the whole of some parts."""
        whole = whole_of(parts)
        if whole not in self.numbers:
            self.numbers[whole] = len(self.wholes)
            self.wholes.append(whole)
        return self.numbers[whole]

    def with_guest(self, at, name):
        """What a coming guest holds behind a whole, None if he is refused; the number of the whole behind him."""
        key = (at, name)
        if key not in self.behind_comings:
            parts = parts_at(self.scheme, self.goods, self.wholes[at])
            answer = parts.answer(name)
            if isinstance(answer, str):
                self.behind_comings[key] = (None, at)
            else:
                parts.enter(name, answer, 1)
                self.behind_comings[key] = (answer[:2], self.place_behind(parts))
        return self.behind_comings[key]

    def without_guest(self, at, name, holds):
        """The number of the whole behind the going of a guest who holds this, None if he was refused."""
        if holds is None:
            return at
        key = (at, name) + holds
        if key not in self.behind_goings:
            parts = parts_at(self.scheme, self.goods, self.wholes[at])
            parts.leave(name, holds + (None, None), 1)
            self.behind_goings[key] = self.place_behind(parts)
        return self.behind_goings[key]


class Meet:
    """Where two houses are behind a let row: its *key*, and what the limits leave.

    The key is a tuple: the pairs (number of a guest kind, how many of it are there), the pairs (counted wish,
    how many came), and the numbers of both wholes.
    """

    def __init__(self, key, rests):
        self.key = key
        self.rests = rests


class Met:
    """A let coming to two houses: his wish, the slot of his kind, whether each of both takes him, the Meet behind."""

    def __init__(self, name, slot, taken, meet):
        self.name = name
        self.slot = slot
        self.taken = taken
        self.meet = meet


class Houses:
    """Two houses with plans of one promise, made ready for let rows. A guest kind is told by a number, its *slot*."""

    def __init__(self, plan, stock, other_plan, other_stock):
        self.frame = Frame(plan.promise)
        self.counted = plan.counted
        self.here = Side(plan, stock)
        self.there = Side(other_plan, other_stock)
        self.kinds = []
        self.slots = {}

    def first_meet(self):
        """Where both are ahead of all events."""
        return Meet(((), (), 0, 0), self.frame.bounds)

    def slot_of(self, kind):
        """The slot of a guest kind."""
        if kind not in self.slots:
            self.slots[kind] = len(self.kinds)
            self.kinds.append(kind)
        return self.slots[kind]

    def met_from(self, meet):
        """The list of the Mets of all let comings, names ascending."""
        return [self.met(meet, name) for name in self.frame.names if self.frame.lets(name, meet.rests)]

    def met(self, meet, name):
        """The Met of a let coming."""
        guests, year, here, there = meet.key
        holds, here = self.here.with_guest(here, name)
        holds_there, there = self.there.with_guest(there, name)
        slot = self.slot_of((name, holds, holds_there))
        year_behind = one_more(year, (name,)) if name in self.counted else year
        key = (one_more(guests, (slot,)), year_behind, here, there)
        taken = (holds is not None, holds_there is not None)
        return Met(name, slot, taken, Meet(key, self.frame.rests_with(name, meet.rests)))

    def meet_without(self, meet, slot):
        """The Meet behind the going of a guest of a kind."""
        guests, year, here, there = meet.key
        name, holds, holds_there = self.kinds[slot]
        here = self.here.without_guest(here, name, holds)
        there = self.there.without_guest(there, name, holds_there)
        key = (one_fewer(guests, (slot,)), year, here, there)
        return Meet(key, self.frame.rests_without(name, meet.rests))

    def double_at(self, meet):
        """The double of a Meet."""
        guests, year, here, there = meet.key
        texts = {kind_text(self.kinds[slot]): (self.kinds[slot], many) for slot, many in guests}
        told = tuple([texts[text] for text in sorted([str(text) for text in texts])])
        return told, year, self.here.wholes[here], self.there.wholes[there]


def kind_text(kind):
    """The text of a guest kind."""
    name, here, there = kind
    return f"{name} {holds_text(here)} {holds_text(there)}"


def holds_text(holds):
    """What a guest holds in one house, as the text of his kind tells it."""
    if holds is None:
        return "-"
    site, locker = holds
    return f"{site} {locker}"
