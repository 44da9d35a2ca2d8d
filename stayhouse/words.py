"""Words of texts: numbers as they are written, and what can stand at a place.

A text is read word by word from the left. Behind the last word stands, for the
functions below, an empty word: it can stand nowhere, so a missing word is told
at the number of the words without being looked for.
"""

from stayhouse.checks import is_name
from stayhouse.errors import BadText

FIGURES = 1000
CHUNK = 10 ** 64
CHUNK_FIGURES = 64


def integer_of(word):
    """The integer of at most 1,000 figures that any value writes as `str` does; None otherwise."""
    if not isinstance(word, str):
        return None
    figures = word[1:] if word.startswith("-") else word
    # The length comes first: Python refuses to turn very long figures into an int.
    if not 1 <= len(figures) <= FIGURES or not all(["0" <= figure <= "9" for figure in figures]):
        return None
    if figures.startswith("0") and word != "0":
        return None
    return int(word)


def number_of(word, least, most):
    """The integer from least to most that any value writes; None otherwise."""
    number = integer_of(word)
    if number is None or not least <= number <= most:
        return None
    return number


def written(number):
    """The figures of an integer from 0 on, however many there are (`str` stops at 4,300)."""
    parts = []
    while number >= CHUNK:
        number, low = divmod(number, CHUNK)
        parts.append(str(low).zfill(CHUNK_FIGURES))
    parts.append(str(number))
    return "".join(parts[::-1])


def words_of(text):
    """The words of a text, parted at single spaces."""
    if not isinstance(text, str):
        raise BadText(0, 0)
    return text.split(" ")


def word_at(words, at):
    """The word at an index, an empty one behind the last one."""
    return words[at] if at < len(words) else ""


def stand_at(words, at, word):
    """Only this word can stand at an index."""
    if word_at(words, at) != word:
        raise BadText(0, at)


def end_at(words, at):
    """No word can stand from an index on."""
    if at < len(words):
        raise BadText(0, at)


def name_at(words, at):
    """The name that stands at an index."""
    word = word_at(words, at)
    if not is_name(word):
        raise BadText(0, at)
    return word


def number_at(words, at, least, most):
    """The integer from least to most that stands at an index."""
    number = number_of(word_at(words, at), least, most)
    if number is None:
        raise BadText(0, at)
    return number


def amount_at(words, at, least):
    """The integer from least on, of at most 1,000 figures, that stands at an index."""
    number = integer_of(word_at(words, at))
    if number is None or number < least:
        raise BadText(0, at)
    return number
