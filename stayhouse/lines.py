"""Lines of a purse: a chain of first sums, and caps for what each line moves on to the next one."""

from stayhouse.checks import is_amount, is_integer, is_sequence, is_within
from stayhouse.errors import BadLines, BadNumber, BadText
from stayhouse.papers import Denial, Paper, lasting
from stayhouse.words import end_at, integer_of, stand_at, word_at, words_of, written

MOST_SUMS = 6
MOST_FIGURES = 40


class Moved(Paper):
    """The purse can have paid: what each line moved on to the next one."""

    def __init__(self, moves):
        self.moves = lasting(moves)

    def kept(self):
        """What the paper keeps."""
        return (self.moves,)


class Lacking(Denial):
    """The purse cannot have paid: an interval of lines that paid more than it reaches."""

    def __init__(self, i, j):
        self.i = lasting(i)
        self.j = lasting(j)

    def kept(self):
        """What the paper keeps."""
        return self.i, self.j


def are_amounts(value):
    """Whether any value is a list or tuple of integers from 0 on."""
    return is_sequence(value) and all([is_amount(number) for number in value])


def check_other(lines, other):
    """Raises unless the right side of an operator is a Lines of as many lines."""
    if not isinstance(other, Lines) or len(other.sums) != len(lines.sums):
        raise BadLines("other")


def check_spent(lines, spent):
    """Raises unless any value is a spent of as many lines."""
    if not are_amounts(spent) or len(spent) != len(lines.sums):
        raise BadLines("spent")


class Lines:
    """The first sums of a chain of lines, and the caps between them; it never changes."""

    def __init__(self, sums, caps=None):
        if not are_amounts(sums) or not 1 <= len(sums) <= MOST_SUMS:
            raise BadLines("sums")
        if caps is not None and (not are_amounts(caps) or len(caps) != len(sums) - 1):
            raise BadLines("caps")
        self.sums = tuple(sums)
        self.caps = (0,) * (len(sums) - 1) if caps is None else tuple(caps)

    @classmethod
    def read(cls, text):
        """The Lines that a text tells."""
        words = words_of(text)
        stand_at(words, 0, "sums")
        sums, at = sums_at(words, 1)
        stand_at(words, at, ";")
        stand_at(words, at + 1, "caps")
        at += 2
        if len(sums) == 1:
            stand_at(words, at, "-")
            end_at(words, at + 1)
            return cls(sums)
        caps = [sum_at(words, at + k) for k in range(len(sums) - 1)]
        end_at(words, at + len(caps))
        return cls(sums, caps)

    def __len__(self):
        return len(self.sums)

    def __getitem__(self, j):
        if not is_within(j, 1, len(self.sums)):
            raise BadNumber(j)
        return self.sums[j - 1]

    def __iter__(self):
        return iter(self.sums)

    def reach(self, i, j):
        """The first sums of the lines i to j and the cap into i, together."""
        if not is_within(i, 1, len(self.sums)):
            raise BadNumber(i)
        if not is_within(j, i, len(self.sums)):
            raise BadNumber(j)
        return sum(self.sums[i - 1:j]) + (self.caps[i - 2] if i > 1 else 0)

    def wanted(self, spent):
        """What is lacking, and what each line but the last one moves on, whatever the caps are."""
        check_spent(self, spent)
        return wanted_of(self.sums, spent)

    def can(self, spent):
        """Whether the purse can have paid so."""
        check_spent(self, spent)
        return can_pay(self.sums, self.caps, spent)

    def left_by(self, spent):
        """What each line has left."""
        check_spent(self, spent)
        if not can_pay(self.sums, self.caps, spent):
            raise BadLines("short")
        return left_with(self.sums, spent, wanted_of(self.sums, spent)[1:])

    def __add__(self, other):
        check_other(self, other)
        sums = [one + more for one, more in zip(self.sums, other.sums)]
        return Lines(sums, [one + more for one, more in zip(self.caps, other.caps)])

    def __le__(self, other):
        check_other(self, other)
        pairs = list(zip(self.sums + self.caps, other.sums + other.caps))
        return all([one <= more for one, more in pairs])

    def __eq__(self, other):
        return isinstance(other, Lines) and self.sums == other.sums and self.caps == other.caps

    def __str__(self):
        return f"sums {amounts_text(self.sums)} ; caps {amounts_text(self.caps)}"


def wanted_of(sums, spent):
    """What is lacking, and what each line but the last one moves on: each line moves just what the next one lacks."""
    wanted = []
    more = 0
    for j in range(len(sums) - 1, -1, -1):
        more = max(0, spent[j] + more - sums[j])
        wanted.append(more)
    return tuple(wanted[::-1])


def can_pay(sums, caps, spent):
    """Whether lines can have paid so."""
    wanted = wanted_of(sums, spent)
    return wanted[0] == 0 and all([move <= cap for move, cap in zip(wanted[1:], caps)])


def left_with(sums, spent, moves):
    """What each line has left if so much was moved on."""
    into = (0,) + moves
    on = moves + (0,)
    return tuple([sums[k] + into[k] - spent[k] - on[k] for k in range(len(sums))])


def amounts_text(amounts):
    """Amounts as a text tells them."""
    if not amounts:
        return "-"
    return " ".join([written(amount) for amount in amounts])


def sum_at(words, at):
    """The amount of at most 40 figures that stands at an index."""
    number = integer_of(word_at(words, at))
    if number is None or number < 0 or len(words[at]) > MOST_FIGURES:
        raise BadText(0, at)
    return number


def sums_at(words, at):
    """The first sums that stand from an index on, at most six; the index behind them."""
    sums = [sum_at(words, at)]
    at += 1
    while len(sums) < MOST_SUMS and is_integer(integer_of(word_at(words, at))):
        sums.append(sum_at(words, at))
        at += 1
    return sums, at


def covered(lines, spent):
    """A Moved if the purse can have paid so, otherwise a Lacking of the first interval that paid too much."""
    if not isinstance(lines, Lines):
        raise BadLines("lines")
    check_spent(lines, spent)
    for i in range(1, len(lines.sums) + 1):
        for j in range(i, len(lines.sums) + 1):
            if sum(spent[i - 1:j]) > lines.reach(i, j):
                return Lacking(i, j)
    return Moved(lines.wanted(spent)[1:])
