"""Plays: what comes of a row, let or not."""

from stayhouse.beats import answer_told
from stayhouse.line_needs import check_row
from stayhouse.parts import Parts, check_stock, whole_of


class Play:
    """A row that is played: its answers, and the parts behind it."""

    def __init__(self, plan, stock, row):
        check_stock(plan, stock)
        check_row(plan, row)
        self.parts = Parts(plan, stock)
        # The guests by their numbers: the wish and what was given, or the word of the part that refused.
        self.guests = []
        self.answers = []
        for event in row:
            if isinstance(event, str):
                self.play_coming(event)
            else:
                self.play_going(event)

    def play_coming(self, name):
        """A guest comes."""
        answer = self.parts.answer(name)
        if not isinstance(answer, str):
            self.parts.enter(name, answer, 1)
        self.guests.append((name, answer))
        self.answers.append(answer_told(answer))

    def play_going(self, number):
        """The guest of a number goes, with what he got if he was taken."""
        name, answer = self.guests[number]
        if isinstance(answer, str):
            self.answers.append(None)
        else:
            self.parts.leave(name, answer, 1)
            self.answers.append(answer_told(answer))


def played(plan, stock, row):
    """The tuple of the answers to all events of a row."""
    return tuple(Play(plan, stock, row).answers)


def first_refusal(plan, stock, row):
    """The pair (index, part) of the first coming that is refused; None if there is none."""
    for at, answer in enumerate(Play(plan, stock, row).answers):
        if isinstance(answer, str):
            return at, answer
    return None


def whole_behind(plan, stock, row):
    """The whole behind a row."""
    return whole_of(Play(plan, stock, row).parts)
