"""The affairs of a live house: who is there, what was done and undone."""

from stayhouse.beats import Given
from stayhouse.counts import counts_in


class Deed:
    """A coming or a going that was carried out, and what the guest got."""

    def __init__(self, told, wish, got):
        # As a history tells it: (kind, name, wish) of a coming, (kind, name) of a going.
        self.told = told
        self.guest = told[1]
        self.wish = wish
        self.got = got
        self.given = Given(*got)


class Affairs:
    """How things are in a house; they change."""

    def __init__(self, parts):
        self.parts = parts
        # The comings of those who are there, by their names; these names, ascending; how many came of each wish.
        self.guests = {}
        self.names = []
        self.came = {name: 0 for name in parts.scheme.names}
        self.past = []
        self.undone = []

    def copied(self):
        """Affairs that are the same, and change on their own."""
        affairs = Affairs(self.parts.copied())
        affairs.guests = {name: self.guests[name] for name in self.guests}
        affairs.names = list(self.names)
        affairs.came = {name: self.came[name] for name in self.came}
        affairs.past = list(self.past)
        affairs.undone = list(self.undone)
        return affairs

    def carry_out(self, deed):
        """Does a deed; what was undone cannot be done again behind it."""
        self.turn(deed, 1)
        self.past.append(deed)
        self.undone = []

    def take_back(self):
        """Undoes the last deed."""
        deed = self.past.pop()
        self.turn(deed, -1)
        self.undone.append(deed)

    def do_again(self):
        """Does the deed again that was undone last."""
        deed = self.undone.pop()
        self.turn(deed, 1)
        self.past.append(deed)

    def turn(self, deed, times):
        """Does a deed; if times is -1, it is taken back."""
        if deed.told[0] == "come":
            self.parts.enter(deed.wish, deed.got, times)
            self.came[deed.wish] += times
        else:
            self.parts.leave(deed.wish, deed.got, times)
        if (deed.told[0] == "come") == (times > 0):
            self.guests[deed.guest] = deed
            self.names.insert(place_among(self.names, deed.guest), deed.guest)
        else:
            del self.guests[deed.guest]
            self.names.pop(place_among(self.names, deed.guest))


def place_among(names, name):
    """The index of the first of ascending names that is not below a name."""
    low = 0
    high = len(names)
    while low < high:
        middle = (low + high) // 2
        if names[middle] < name:
            low = middle + 1
        else:
            high = middle
    return low


def standing_of(parts):
    """The Counts of the wishes of those who are there."""
    return counts_in({name: guests_of(parts.things, name) for name in parts.scheme.names})


def guests_of(things, name):
    """How many guests of a wish hold things."""
    return sum([things[thing] for thing in things if thing[0] == name])


def bays_left(parts):
    """The Counts of the free bays."""
    bays = parts.goods.bays
    return counts_in({site.name: bays[site.name] - parts.bays_out.get(site.name, 0) for site in parts.scheme.sites})


def carts_left(parts):
    """The Counts of the carts at all gates."""
    return counts_in({gate: parts.carts_at(gate) for gate in parts.scheme.gates})


def is_repeated(parts, past):
    """Whether parts that have handed out nothing hand out just the same again."""
    for deed in past:
        if deed.told[0] == "come":
            if parts.answer(deed.wish) != deed.got:
                return False
            parts.enter(deed.wish, deed.got, 1)
        else:
            parts.leave(deed.wish, deed.got, 1)
    return True
