"""Beats: what one coming or one going does to a whole."""

from stayhouse.checks import is_integer
from stayhouse.errors import NoGuest, NoWish
from stayhouse.papers import Paper, lasting
from stayhouse.parts import Parts, check_stock, parts_at, whole_of


class Given(Paper):
    """What a guest gets: a bay, a locker, a cart, and a line that pays."""

    def __init__(self, site, locker, gate, line):
        self.site = lasting(site)
        self.locker = lasting(locker)
        self.gate = lasting(gate)
        self.line = lasting(line)

    def kept(self):
        """What the paper keeps."""
        return self.site, self.locker, self.gate, self.line


def answer_told(answer):
    """The Given of what a guest gets; the word of the part that refuses him as it is."""
    return answer if isinstance(answer, str) else Given(*answer)


def begin(plan, stock):
    """The whole of a house without guests."""
    check_stock(plan, stock)
    return whole_of(Parts(plan, stock))


def check_coming(plan, stock, wish):
    """Raises unless any values are a Plan, a Stock for it, and the name of a wish of it."""
    check_stock(plan, stock)
    if wish not in plan:
        raise NoWish(wish)


def asked(plan, stock, whole, wish):
    """The Given of a coming guest; the word of the part that refuses him."""
    check_coming(plan, stock, wish)
    return answer_told(parts_at(plan, stock, whole).answer(wish))


def behind_coming(plan, stock, whole, wish):
    """The whole behind a coming; None if the guest is refused."""
    check_coming(plan, stock, wish)
    parts = parts_at(plan, stock, whole)
    answer = parts.answer(wish)
    if isinstance(answer, str):
        return None
    parts.enter(wish, answer, 1)
    return whole_of(parts)


def behind_going(plan, stock, whole, thing):
    """The whole behind the going of a guest who has a triple of its things."""
    check_stock(plan, stock)
    if not is_thing(thing) or thing not in [told for told, _ in whole[0]]:
        raise NoGuest(thing)
    name, site, locker = thing
    parts = parts_at(plan, stock, whole)
    parts.leave(name, (site, locker, None, None), 1)
    return whole_of(parts)


def is_thing(value):
    """Whether any value is a triple whose locker is an integer; True would equal one."""
    return isinstance(value, tuple) and len(value) == 3 and is_integer(value[2])
