"""Books: which stays are let."""

from math import lcm

from stayhouse.checks import is_sequence, is_within
from stayhouse.errors import BadBook, BadText, TooMany
from stayhouse.stays import Stay, check_stay
from stayhouse.words import number_at, word_at, words_of

MOST_ROWS = 60
LONGEST = 30
MOST_DAYS = 400
MOST_NIGHTS = 2000


def is_row(row):
    """Whether any value is a list or tuple of unlike numbers of nights."""
    if not is_sequence(row) or not all([is_within(nights, 1, LONGEST) for nights in row]):
        return False
    return len(set(row)) == len(row)


def fewest(told):
    """The tuple of the fewest rows that tell the same as a list of ascending tuples."""
    many = len(told)
    for fewer in range(1, many):
        # What repeats with two numbers repeats with their common divisor: so the least one divides how many there are.
        if many % fewer == 0 and told[fewer:] == told[:many - fewer]:
            return tuple(told[:fewer])
    return tuple(told)


class Book:
    """Lets stays by their first day, modulo the number of the rows, and their number of nights; it never changes."""

    def __init__(self, *told):
        if not 1 <= len(told) <= MOST_ROWS:
            raise BadBook("rows")
        for at, row in enumerate(told):
            if not is_row(row):
                raise BadBook(at)
        self.rows = fewest([tuple(sorted([int(nights) for nights in row])) for row in told])

    @staticmethod
    def none():
        """The Book that lets no stay."""
        return Book([])

    @classmethod
    def read(cls, text):
        """The Book that a text tells."""
        told = rows_told(words_of(text))
        book = cls(*told)
        if len(book.rows) < len(told):
            raise BadText(0, 0)
        return book

    def __call__(self, stay):
        check_stay(stay)
        return is_let_by(self, stay)

    def let_stays(self, first, after):
        """All let stays within these days, by first day, then by nights."""
        days = Stay(first, after)
        if days.nights > MOST_DAYS:
            raise TooMany("days", MOST_DAYS)
        for day in range(first, after):
            for nights in row_of(self, day):
                if day + nights <= after:
                    yield Stay(day, day + nights)

    def row_for(self, stay):
        """Let stays, each beginning where the one ahead ends, that fill a stay; None if there are none."""
        steps = steps_along(self, stay)
        if steps[0] is None:
            return None
        row = []
        at = 0
        while at < len(steps):
            row.append(Stay(stay.first + at, stay.first + at + steps[at]))
            at += steps[at]
        return tuple(row)

    def fills(self, stay):
        """Whether there are let stays that fill a stay."""
        return steps_along(self, stay)[0] is not None

    def __or__(self, other):
        return book_of([tuple(sorted(set(one + more))) for one, more in rows_of_both(self, other)])

    def __and__(self, other):
        return book_of([nights_in_both(one, more) for one, more in rows_of_both(self, other)])

    def __le__(self, other):
        return all([nights in more for one, more in rows_of_both(self, other) for nights in one])

    def __eq__(self, other):
        return isinstance(other, Book) and self.rows == other.rows

    def __str__(self):
        return " / ".join([row_text(row) for row in self.rows])


def check_book(book):
    """Raises unless any value is a Book."""
    if not isinstance(book, Book):
        raise BadBook("book")


def row_of(book, day):
    """The row of a book for stays that begin on a day."""
    return book.rows[day % len(book.rows)]


def is_let_by(book, stay):
    """Whether a book lets a stay."""
    return stay.nights in row_of(book, stay.first)


def steps_along(book, stay):
    """For each day of a stay the nights of a let stay, the first one of a row to its end; None without such a row."""
    check_stay(stay)
    if stay.nights > MOST_NIGHTS:
        raise TooMany("nights", MOST_NIGHTS)
    many = stay.nights
    steps = [None] * many
    for at in range(many - 1, -1, -1):
        for nights in row_of(book, stay.first + at):
            if at + nights == many or (at + nights < many and steps[at + nights] is not None):
                steps[at] = nights
    return steps


def rows_of_both(book, other):
    """The list of the pairs of rows of a book and of any value on the right of an operator, day by day."""
    if not isinstance(other, Book):
        raise BadBook("other")
    return [(row_of(book, day), row_of(other, day)) for day in range(lcm(len(book.rows), len(other.rows)))]


def nights_in_both(row, other):
    """The numbers of nights that stand in both rows."""
    return tuple([nights for nights in row if nights in other])


def book_of(told):
    """The Book with these rows, as far as they are needed."""
    needed = fewest(told)
    if len(needed) > MOST_ROWS:
        raise TooMany("rows", MOST_ROWS)
    return Book(*needed)


def row_text(row):
    """A row as a text tells it."""
    if not row:
        return "-"
    return " ".join([str(nights) for nights in row])


def row_at(words, at):
    """The row that stands from an index on; the index behind it."""
    if word_at(words, at) == "-":
        return [], at + 1
    row = [number_at(words, at, 1, LONGEST)]
    at += 1
    while at < len(words) and words[at] != "/":
        row.append(number_at(words, at, row[-1] + 1, LONGEST))
        at += 1
    return row, at


def rows_told(words):
    """The list of the rows that all the words tell."""
    row, at = row_at(words, 0)
    told = [row]
    while at < len(words):
        if words[at] != "/" or len(told) == MOST_ROWS:
            raise BadText(0, at)
        row, at = row_at(words, at + 1)
        told.append(row)
    return told
