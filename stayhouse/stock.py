"""Stocks: how many bays, lockers and carts a house has, its first sums and the caps between them."""

from stayhouse.checks import is_amount, is_name, is_within
from stayhouse.counts import Counts, counts_in, numbers_at
from stayhouse.errors import BadNumber, BadStock, BadText, NoGate, NoHall
from stayhouse.lines import amounts_text, are_amounts
from stayhouse.racks import Rack, rack_in, sizes_at
from stayhouse.words import amount_at, end_at, integer_of, name_at, stand_at, word_at, words_of


def counts_told(value, part):
    """The Counts of a dict or Counts."""
    if isinstance(value, Counts):
        return value
    if not isinstance(value, dict) or not all([is_name(name) and is_amount(value[name]) for name in value]):
        raise BadStock(part)
    return counts_in(value)


def rack_told(value):
    """The Rack of a Rack, or of what Rack.of takes."""
    if isinstance(value, Rack):
        return value
    try:
        return rack_in(value)
    except BadStock as why:
        raise BadStock("racks") from why


def racks_told(value):
    """The ascending tuple of the pairs (hall, Rack) of the halls that have lockers, of None or a dict."""
    if value is None:
        return ()
    if not isinstance(value, dict) or not all([is_name(hall) for hall in value]):
        raise BadStock("racks")
    racks = {hall: rack_told(value[hall]) for hall in value}
    return tuple([(hall, racks[hall]) for hall in sorted([str(hall) for hall in racks]) if racks[hall].total > 0])


class Stock:
    """The stock of a house; it never changes."""

    def __init__(self, bays, racks=None, carts=None, sums=(), caps=()):
        self.bays = counts_told(bays, "bays")
        self.racks = racks_told(racks)
        self.carts = Counts() if carts is None else counts_told(carts, "carts")
        if not are_amounts(sums):
            raise BadStock("sums")
        if not are_amounts(caps) or len(caps) != max(0, len(sums) - 1):
            raise BadStock("caps")
        self.sums = tuple(sums)
        self.caps = tuple(caps)

    @classmethod
    def read(cls, text):
        """The Stock that a text tells."""
        words = words_of(text)
        stand_at(words, 0, "bays")
        bays, at = numbers_at(words, 1, None)
        stand_at(words, at, ";")
        racks, at = racks_at(words, at + 1)
        stand_at(words, at, "carts")
        carts, at = numbers_at(words, at + 1, None)
        stand_at(words, at, ";")
        stand_at(words, at + 1, "sums")
        sums, at = amounts_at(words, at + 2)
        stand_at(words, at, ";")
        stand_at(words, at + 1, "caps")
        caps, at = amounts_at(words, at + 2)
        end_at(words, at)
        return cls(bays, racks, carts, sums, caps)

    def rack(self, hall):
        """The Rack of a hall, an empty one for any other value."""
        for name, rack in self.racks:
            if name == hall:
                return rack
        return Rack()

    def with_bays(self, bays):
        """The Stock with other bays."""
        return Stock(bays, dict_told(self.racks), self.carts, self.sums, self.caps)

    def with_rack(self, hall, rack):
        """The Stock with another Rack for a hall."""
        if not is_name(hall):
            raise NoHall(hall)
        racks = dict_told(self.racks)
        racks[hall] = rack
        return Stock(self.bays, racks, self.carts, self.sums, self.caps)

    def with_carts(self, gate, number):
        """The Stock with another number of carts at a gate."""
        if not is_name(gate):
            raise NoGate(gate)
        carts = {name: self.carts[name] for name in self.carts}
        carts[gate] = number
        return Stock(self.bays, dict_told(self.racks), carts, self.sums, self.caps)

    def with_sum(self, line, amount):
        """The Stock with another first sum of a line."""
        if not is_within(line, 1, len(self.sums)):
            raise BadNumber(line)
        sums = self.sums[:line - 1] + (amount,) + self.sums[line:]
        return Stock(self.bays, dict_told(self.racks), self.carts, sums, self.caps)

    def with_cap(self, line, amount):
        """The Stock with another cap from a line to the next one."""
        if not is_within(line, 1, len(self.caps)):
            raise BadNumber(line)
        caps = self.caps[:line - 1] + (amount,) + self.caps[line:]
        return Stock(self.bays, dict_told(self.racks), self.carts, self.sums, caps)

    def __add__(self, other):
        check_other(self, other)
        racks = {hall: self.rack(hall) + other.rack(hall) for hall in halls_of(self) + halls_of(other)}
        sums = [one + more for one, more in zip(self.sums, other.sums)]
        caps = [one + more for one, more in zip(self.caps, other.caps)]
        return Stock(self.bays + other.bays, racks, self.carts + other.carts, sums, caps)

    def __sub__(self, other):
        check_other(self, other)
        if not has_at_least(self, other):
            raise BadStock("less")
        racks = {hall: self.rack(hall) - other.rack(hall) for hall in halls_of(self)}
        sums = [one - less for one, less in zip(self.sums, other.sums)]
        caps = [one - less for one, less in zip(self.caps, other.caps)]
        return Stock(self.bays - other.bays, racks, self.carts - other.carts, sums, caps)

    def __le__(self, other):
        check_other(self, other)
        return has_at_least(other, self)

    def __eq__(self, other):
        return isinstance(other, Stock) and stock_parts(self) == stock_parts(other)

    def __str__(self):
        return f"bays {self.bays}{racks_text(self)} ; carts {self.carts} ; {chain_text(self)}"


def check_other(stock, other):
    """Raises unless the right side of an operator is a Stock of as many lines."""
    if not isinstance(other, Stock):
        raise BadStock("other")
    if len(other.sums) != len(stock.sums):
        raise BadStock("sums")


def halls_of(stock):
    """The list of the halls that have lockers."""
    return [hall for hall, _ in stock.racks]


def has_at_least(stock, other):
    """Whether no number of the other stock, of as many lines, is more than that of a stock."""
    if not other.bays <= stock.bays or not other.carts <= stock.carts:
        return False
    pairs = list(zip(other.sums + other.caps, stock.sums + stock.caps))
    for hall, rack in other.racks:
        pairs = pairs + list(zip(rack.nine, stock.rack(hall).nine))
    return all([less <= many for less, many in pairs])


def stock_parts(stock):
    """All attributes of a stock."""
    return stock.bays, stock.racks, stock.carts, stock.sums, stock.caps


def racks_text(stock):
    """What the text of a stock tells of its racks."""
    return "".join([f" ; rack {hall} {rack}" for hall, rack in stock.racks])


def chain_text(stock):
    """What the text of a stock tells of its sums and caps."""
    return f"sums {amounts_text(stock.sums)} ; caps {amounts_text(stock.caps)}"


def dict_told(racks):
    """The dict of the racks of a stock."""
    return {hall: rack for hall, rack in racks}


def racks_at(words, at):
    """The dict of the racks that stand from an index on, each with a `;` behind it; the index behind them."""
    racks = {}
    last = ""
    while word_at(words, at) == "rack":
        hall = name_at(words, at + 1)
        if hall <= last:
            raise BadText(0, at + 1)
        # A hall without lockers is not written.
        if word_at(words, at + 2) == "-":
            raise BadText(0, at + 2)
        racks[hall], at = sizes_at(words, at + 2)
        stand_at(words, at, ";")
        last = hall
        at += 1
    return racks, at


def amounts_at(words, at):
    """The amounts, or the `-`, that stand from an index on; the index behind them."""
    if word_at(words, at) == "-":
        return [], at + 1
    amounts = [amount_at(words, at, 0)]
    at += 1
    while integer_of(word_at(words, at)) is not None:
        amounts.append(amount_at(words, at, 0))
        at += 1
    return amounts, at
