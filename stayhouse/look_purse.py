"""Looks at told papers of the purse, without a search for them."""

from stayhouse.checks import is_within
from stayhouse.errors import BadLines
from stayhouse.line_needs import LineNeed, LineRing
from stayhouse.lines import Lacking, Lines, Moved, are_amounts, check_spent, left_with
from stayhouse.look_needs import shows_need_told, shows_ring_told
from stayhouse.looks import Look
from stayhouse.tolls import line_bays, line_toll


def shows_covered(lines, spent, value):
    """Whether any value is a right Moved or a right Lacking."""
    if not isinstance(lines, Lines):
        raise BadLines("lines")
    check_spent(lines, spent)
    if isinstance(value, Moved):
        return shows_moved(lines, spent, value.moves)
    return isinstance(value, Lacking) and shows_lacking(lines, spent, value)


def shows_moved(lines, spent, moves):
    """Whether any value is a tuple of moves within the caps with which no line has less than 0 left."""
    if not isinstance(moves, tuple) or not are_amounts(moves) or len(moves) != len(lines.caps):
        return False
    if not all([move <= cap for move, cap in zip(moves, lines.caps)]):
        return False
    return all([left >= 0 for left in left_with(lines.sums, spent, moves)])


def shows_lacking(lines, spent, paper):
    """Whether a Lacking of any values tells lines whose interval paid more than it reaches."""
    if not is_within(paper.i, 1, len(lines.sums)) or not is_within(paper.j, paper.i, len(lines.sums)):
        return False
    return sum(spent[paper.i - 1:paper.j]) > lines.reach(paper.i, paper.j)


def shows_need_of_lines(plan, bays, i, j, value):
    """Whether any value is a right LineNeed or a right LineRing."""
    look = Look(plan, line_bays(plan, bays, i, j), None)
    if isinstance(value, LineNeed):
        return shows_need_told(plan, look, line_toll(plan, i, j), value)
    return isinstance(value, LineRing) and shows_ring_told(plan, look, line_toll(plan, i, j), value)
