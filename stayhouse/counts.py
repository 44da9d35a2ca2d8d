"""Counts: how many there are of each name."""

from stayhouse.checks import is_amount, is_name
from stayhouse.errors import BadCounts, BadName, BadNumber, BadText
from stayhouse.words import amount_at, end_at, name_at, number_at, word_at, words_of, written


def check_numbers(numbers):
    """Raises for the first key of a dict that is no name, or number that is no amount."""
    for name in numbers:
        if not is_name(name):
            raise BadName(name)
        if not is_amount(numbers[name]):
            raise BadNumber(numbers[name])


def check_other(other):
    """Raises unless the right side of an operator is a Counts."""
    if not isinstance(other, Counts):
        raise BadCounts("other")


def numbers_at(words, at, most):
    """The dict of the names and numbers, or of the `-`, that stand from an index on; the index behind.

    They end with the words or ahead of a `;`. Most is the greatest number, None without one.
    """
    if word_at(words, at) == "-":
        return {}, at + 1
    numbers = {}
    last = ""
    while not numbers or (at < len(words) and words[at] != ";"):
        name = name_at(words, at)
        if name <= last:
            raise BadText(0, at)
        numbers[name] = amount_at(words, at + 1, 1) if most is None else number_at(words, at + 1, 1, most)
        last = name
        at += 2
    return numbers, at


class Counts:
    """How many there are of each name; it never changes."""

    def __init__(self, **numbers):
        check_numbers(numbers)
        names = sorted([str(name) for name in numbers if numbers[name] > 0])
        self.names = tuple(names)
        self.total = sum([numbers[name] for name in names])
        self._numbers = {name: numbers[name] for name in names}

    @staticmethod
    def of(numbers):
        """The Counts of a dict."""
        return counts_in(numbers)

    @classmethod
    def read(cls, text):
        """The Counts that a text tells."""
        words = words_of(text)
        numbers, behind = numbers_at(words, 0, None)
        end_at(words, behind)
        return counts_in(numbers)

    def __len__(self):
        return len(self.names)

    def __iter__(self):
        return iter(self.names)

    def __contains__(self, value):
        return isinstance(value, str) and value in self._numbers

    def __getitem__(self, name):
        return self._numbers.get(name, 0) if isinstance(name, str) else 0

    def __add__(self, other):
        check_other(other)
        return counts_in({name: self[name] + other[name] for name in self.names + other.names})

    def __sub__(self, other):
        if not other_at_most(self, other):
            raise BadCounts("less")
        return counts_in({name: self[name] - other[name] for name in self.names})

    def __and__(self, other):
        check_other(other)
        return counts_in({name: min(int(self[name]), int(other[name])) for name in self.names})

    def __or__(self, other):
        check_other(other)
        return counts_in({name: max(int(self[name]), int(other[name])) for name in self.names + other.names})

    def __le__(self, other):
        check_other(other)
        return all([self[name] <= other[name] for name in self.names])

    def __ge__(self, other):
        return other_at_most(self, other)

    def __lt__(self, other):
        return self <= other and self != other

    def __gt__(self, other):
        return other_at_most(self, other) and self != other

    def __mul__(self, number):
        if not is_amount(number):
            raise BadNumber(number)
        return counts_in({name: self[name] * number for name in self.names})

    def __eq__(self, other):
        return isinstance(other, Counts) and self._numbers == other._numbers

    def __str__(self):
        if not self.names:
            return "-"
        return " ".join([f"{name} {written(self[name])}" for name in self.names])


def counts_in(numbers):
    """The Counts of any value that is a dict from names to amounts."""
    if not isinstance(numbers, dict):
        raise BadCounts("numbers")
    # Keys of any kind are looked at here: only strings can be handed on by name.
    check_numbers(numbers)
    return Counts(**numbers)


def other_at_most(counts, other):
    """Whether the right side of an operator is a Counts at most the left one."""
    check_other(other)
    return all([other[name] <= counts[name] for name in other.names])
