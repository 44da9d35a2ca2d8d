"""Racks: how many lockers a hall has of each size."""

from stayhouse.checks import MOST_SIZE, is_amount, is_sequence, is_within
from stayhouse.errors import BadNumber, BadStock, BadText
from stayhouse.words import amount_at, end_at, number_at, word_at, words_of, written


def check_other(other):
    """Raises unless the right side of an operator is a Rack."""
    if not isinstance(other, Rack):
        raise BadStock("other")


def check_size(size):
    """Raises unless any value is a size of lockers."""
    if not is_within(size, 1, MOST_SIZE):
        raise BadNumber(size)


class Rack:
    """How many lockers a hall has of the sizes 1 to 9; it never changes."""

    def __init__(self, *numbers):
        if len(numbers) > MOST_SIZE or not all([is_amount(number) for number in numbers]):
            raise BadStock("lockers")
        nine = numbers + (0,) * (MOST_SIZE - len(numbers))
        self.nine = nine
        self.total = sum(nine)
        self.sizes = tuple([size for size in range(1, MOST_SIZE + 1) if nine[size - 1] > 0])

    @staticmethod
    def of(numbers):
        """The Rack of a list or tuple, or of a dict from sizes to numbers."""
        return rack_in(numbers)

    @classmethod
    def read(cls, text):
        """The Rack that a text tells."""
        words = words_of(text)
        numbers, behind = sizes_at(words, 0)
        end_at(words, behind)
        return rack_in(numbers)

    def __getitem__(self, size):
        check_size(size)
        return self.nine[size - 1]

    def from_size(self, size):
        """How many lockers there are of a size and of greater ones."""
        check_size(size)
        return sum(self.nine[size - 1:])

    def __iter__(self):
        return iter(self.sizes)

    def __len__(self):
        return len(self.sizes)

    def __contains__(self, value):
        return is_within(value, 1, MOST_SIZE) and self.nine[value - 1] > 0

    def __add__(self, other):
        check_other(other)
        return rack_in([one + more for one, more in zip(self.nine, other.nine)])

    def __sub__(self, other):
        check_other(other)
        rest = [one - less for one, less in zip(self.nine, other.nine)]
        if not all([number >= 0 for number in rest]):
            raise BadStock("less")
        return rack_in(rest)

    def __mul__(self, number):
        if not is_amount(number):
            raise BadNumber(number)
        return rack_in([one * number for one in self.nine])

    def __and__(self, other):
        check_other(other)
        return rack_with([min(int(one), int(more)) for one, more in zip(sums_from(self), sums_from(other))])

    def __or__(self, other):
        check_other(other)
        return rack_with([max(int(one), int(more)) for one, more in zip(sums_from(self), sums_from(other))])

    def __le__(self, other):
        check_other(other)
        return stands_in(other, self)

    def __ge__(self, other):
        check_other(other)
        return stands_in(self, other)

    def __lt__(self, other):
        return self <= other and self != other

    def __gt__(self, other):
        return self >= other and self != other

    def __eq__(self, other):
        return isinstance(other, Rack) and self.nine == other.nine

    def __str__(self):
        if not self.sizes:
            return "-"
        return " ".join([f"{size} {written(self[size])}" for size in self.sizes])


def rack_in(numbers):
    """The Rack of any value that is a list or tuple, or a dict from sizes to numbers."""
    if is_sequence(numbers):
        return Rack(*numbers)
    if not isinstance(numbers, dict) or not all([is_within(size, 1, MOST_SIZE) for size in numbers]):
        raise BadStock("lockers")
    nine = [numbers.get(size, 0) for size in range(1, MOST_SIZE + 1)]
    return Rack(*nine)


def sums_from(rack):
    """For each size how many lockers a rack has of it and of greater ones."""
    return [rack.from_size(size) for size in range(1, MOST_SIZE + 1)]


def rack_with(sums):
    """The rack that has so many lockers from each size on."""
    return rack_in([more - less for more, less in zip(sums, sums[1:] + [0])])


def stands_in(rack, other):
    """Whether a rack has from each size on at least as many lockers as another one."""
    return all([one >= less for one, less in zip(sums_from(rack), sums_from(other))])


def sizes_at(words, at):
    """The dict of the sizes and numbers, or of the `-`, that stand from an index on; the index behind.

    They end with the words or ahead of a `;`.
    """
    if word_at(words, at) == "-":
        return {}, at + 1
    numbers = {}
    last = 0
    while not numbers or (at < len(words) and words[at] != ";"):
        size = number_at(words, at, 1, MOST_SIZE)
        if size <= last:
            raise BadText(0, at)
        numbers[size] = amount_at(words, at + 1, 1)
        last = size
        at += 2
    return numbers, at
