"""Lines of a purse: reach, moves, sums and comparisons, texts, and papers that are looked at."""

import random
import unittest

from helpers import ANY, StayTest
from plain import purse_wants

from stayhouse.errors import BadLines, BadNumber, BadText
from stayhouse.lines import Lacking, Lines, Moved, covered
from stayhouse.look_purse import shows_covered

THREE = Lines([5, 0, 5], [5, 0])
ONE = Lines((7,))


def some_lines(rng):
    many = rng.randint(1, 6)
    return Lines([rng.randint(0, 5) for _ in range(many)], [rng.randint(0, 4) for _ in range(many - 1)])


def some_spent(rng, lines):
    return tuple(rng.randint(0, 4) for _ in range(len(lines)))


def plain_moves(lines, most=12):
    """All moves within the caps, none above a bound."""
    told = [()]
    for cap in lines.caps:
        told = [moves + (more,) for moves in told for more in range(min(cap, most) + 1)]
    return told


def left(lines, spent, moves):
    """What each line has left."""
    told = (0,) + tuple(moves) + (0,)
    return [lines[k] + told[k - 1] - spent[k - 1] - told[k] for k in range(1, len(lines) + 1)]


class LinesTest(StayTest):
    def test_made(self):
        self.same((THREE.sums, THREE.caps), ((5, 0, 5), (5, 0)))
        self.same((Lines((1, 2)).caps, ONE.caps, Lines([7], []).caps, Lines([7], ()).caps), ((0,), (), (), ()))
        six = Lines(list(range(6)), [10 ** 39] * 5)
        self.assertEqual((len(six), list(six), [six[j] for j in range(1, 7)]), (6, list(range(6)), list(range(6))))
        self.assertEqual(Lines(sums=[1, 2], caps=[3]), Lines((1, 2), (3,)))
        sums, caps = [1, 2], [3]
        lines = Lines(sums, caps)
        sums.append(5)
        caps[0] = 9
        self.assertEqual((lines, sums), (Lines([1, 2], [3]), [1, 2, 5]))

    def test_wrong_sums(self):
        for value in ANY + [[1] * 7, (1,) * 7, [True], [-1], ["1"], [1, None], (1, -1), {0: 1}, "11", [[1]]]:
            if type(value) not in (list, tuple) or not 1 <= len(value) <= 6 or not all(type(n) is int and n >= 0 for n in value):
                self.raises(BadLines("sums"), Lines, value)
                self.raises(BadLines("sums"), Lines, value, 5)

    def test_wrong_caps(self):
        for value in ANY + [[1], [1, 2, 3], [1, True], [1, -1], (1, "2"), {1: 1, 2: 2}, "12", [1, None]]:
            if value is not None and value != (1, 2):
                self.raises(BadLines("caps"), Lines, [1, 2, 3], value)
                if value not in ([], ()):
                    self.raises(BadLines("caps"), Lines, [1], value)
        self.raises(BadLines("caps"), Lines, [1, 2], [])

    def test_first_sums(self):
        for value in ANY:
            if not (type(value) is int and value in (1, 2, 3)):
                with self.assertRaises(BadNumber) as caught:
                    THREE[value]
                self.same(caught.exception.value, value)
        for value in (4, 0, -1, 10 ** 39, True):
            with self.assertRaises(BadNumber):
                THREE[value]

    def test_reach(self):
        lines = Lines([1, 10, 100], [1000, 10000])
        told = {(1, 1): 1, (1, 2): 11, (1, 3): 111, (2, 2): 1010, (2, 3): 1110, (3, 3): 10100}
        self.assertEqual({(i, j): lines.reach(i, j) for i, j in told}, told)
        self.assertEqual(lines.reach(i=2, j=3), 1110)
        for value in ANY:
            if not (type(value) is int and value == 1):
                self.raises(BadNumber(value), lines.reach, value, 5)
                self.raises(BadNumber(value), lines.reach, value, value)
            if not (type(value) is int and value == 3):
                self.raises(BadNumber(value), lines.reach, 3, value)
        self.raises(BadNumber(1), lines.reach, 2, 1)
        self.raises(BadNumber(4), lines.reach, 1, 4)

    def test_wrong_spent(self):
        for value in ANY + [[1, 2], [1, 2, 3, 4], [1, 2, True], [1, 2, -1], (1, 2, None), {1: 1}, "123"]:
            for method in (THREE.wanted, THREE.can, THREE.left_by):
                if value != (1, 2, 3):
                    self.raises(BadLines("spent"), method, value)
            self.raises(BadLines("spent"), covered, THREE, value)
            self.raises(BadLines("spent"), shows_covered, THREE, value, 5)
        for value in ANY:
            self.raises(BadLines("lines"), covered, value, 5)
            self.raises(BadLines("lines"), shows_covered, value, 5, 5)

    def test_against_the_document(self):
        rng = random.Random(61)
        yes = no = 0
        for _ in range(600):
            lines = some_lines(rng)
            spent = some_spent(rng, lines)
            wants = purse_wants(lines.sums, spent)
            self.same(lines.wanted(spent), wants[:-1])
            self.assertEqual(lines.wanted(list(spent)), wants[:-1])
            right = [moves for moves in plain_moves(lines) if min(left(lines, spent, moves)) >= 0]
            fact = all(sum(spent[i - 1:j]) <= lines.reach(i, j) for i in range(1, len(lines) + 1) for j in range(i, len(lines) + 1))
            self.assertEqual((lines.can(spent), bool(covered(lines, spent))), (bool(right), bool(right)))
            self.assertEqual(fact, bool(right))
            if right:
                yes += 1
                moves = wants[1:-1]
                self.assertIn(moves, right)
                # Each line moves just what the next one lacks.
                self.assertTrue(all(all(a <= b for a, b in zip(moves, other)) for other in right))
                self.same(lines.left_by(spent), tuple(left(lines, spent, moves)))
                self.assertEqual(covered(lines, spent), Moved(moves))
            else:
                no += 1
                self.raises(BadLines("short"), lines.left_by, spent)
                pairs = [(i, j) for i in range(1, len(lines) + 1) for j in range(i, len(lines) + 1)
                         if sum(spent[i - 1:j]) > lines.reach(i, j)]
                self.assertEqual(covered(lines, spent), Lacking(*pairs[0]))
            self.assertIs(shows_covered(lines, spent, covered(lines, spent)), True)
        self.assertGreater(min(yes, no), 100)

    def test_one_line_and_six(self):
        self.assertEqual((ONE.wanted([7]), ONE.can([7]), ONE.left_by([3]), ONE.wanted([9]), ONE.can([9])), ((0,), True, (4,), (2,), False))
        self.assertEqual((covered(ONE, [7]), covered(ONE, (8,))), (Moved(()), Lacking(1, 1)))
        six = Lines([5, 0, 0, 0, 0, 0], [5] * 5)
        self.assertEqual(six.wanted([0, 0, 0, 0, 0, 5]), (0, 5, 5, 5, 5, 5))
        self.assertEqual(six.left_by([0, 0, 1, 0, 0, 3]), (1, 0, 0, 0, 0, 0))
        self.assertEqual(covered(six, [0, 0, 0, 0, 0, 6]), Lacking(1, 6))
        great = Lines([10 ** 39, 1], [10 ** 39])
        self.assertEqual(great.left_by([0, 10 ** 39]), (1, 0))

    def test_sums_and_comparisons(self):
        two, more = Lines([1, 2], [3]), Lines([10, 20], [30])
        self.assertEqual(two + more, Lines([11, 22], [33]))
        self.assertEqual(ONE + ONE, Lines([14]))
        self.assertEqual((two <= more, more <= two, two <= two), (True, False, True))
        for less in (Lines([0, 2], [3]), Lines([1, 1], [3]), Lines([1, 2], [2])):
            self.assertEqual((less <= two, two <= less), (True, False))
        for value in ANY + [ONE, THREE, (1, 2), "sums 1 2 ; caps 3"]:
            self.raises(BadLines("other"), lambda: two + value)
            self.raises(BadLines("other"), lambda: two <= value)
            self.assertFalse(two == value)
        self.assertFalse(two == Lines([1, 2], [4]) or two == Lines([1, 3], [3]) or Lines([1]) == Lines([1, 0]))
        self.assertTrue(two != more and two == Lines((1, 2), (3,)))
        added = two
        added += two
        self.assertEqual((two, added), (Lines([1, 2], [3]), Lines([2, 4], [6])))

    def test_texts(self):
        self.assertEqual((str(THREE), str(ONE), str(Lines([1, 2]))), ("sums 5 0 5 ; caps 5 0", "sums 7 ; caps -", "sums 1 2 ; caps 0"))
        for lines in (THREE, ONE, Lines([1, 2]), Lines([0, 1, 2, 3, 4, 5], [9] * 5), Lines([10 ** 40 - 1, 0], [10 ** 39])):
            self.read_of(Lines.read, lines)

    def test_words_left_out_put_in_and_exchanged(self):
        text = "sums 5 0 ; caps 3"
        self.doubled(Lines.read, text, {1: 7, 2: 7})
        self.exchanged(Lines.read, text, {1: None, 2: 3})
        # One sum has no cap.
        self.left_out(Lines.read, text, {1: 4, 2: 4})

    def test_wrong_texts(self):
        self.read_wrong(Lines.read, {
            "": 0, "-": 0, "sums": 1, "sum 5": 0, "sums -": 1, "sums ; caps -": 1, "sums 5": 2, "sums 5 ;": 3, "sums 5 ; caps": 4,
            "sums 5 ; caps 0": 4, "sums 5 ; caps - -": 5, "sums 5 6 ; caps -": 5, "sums 5 6 ; caps 1 2": 6, "sums 5 6 7 ; caps 1": 7,
            "sums 1 2 3 4 5 6 7 ; caps 1 2 3 4 5 6": 7, "sums 1 2 3 4 5 6 ; caps 1 2 3 4": 13, "sums 05 ; caps -": 1, "sums -5 ; caps -": 1,
            "sums 5  ; caps -": 2, " sums 5 ; caps -": 0, "sums 5 ; caps - ": 5, "sums 5 -6 ; caps 1": 2, "sums 1" + "0" * 40 + " ; caps -": 1,
            "sums 1 2 ; caps 1" + "0" * 40: 5, "sums 5 caps -": 2, "sums 5 ; caps 1 ; x": 4, "sums 5\n; caps -": 1, "caps - ; sums 5": 0,
        })
        self.assertEqual(Lines.read("sums 9" + "0" * 39 + " ; caps -"), Lines([9 * 10 ** 39]))


class LookPurseTest(StayTest):
    def test_moved(self):
        rng = random.Random(62)
        for _ in range(200):
            lines = some_lines(rng)
            spent = some_spent(rng, lines)
            right = [moves for moves in plain_moves(lines) if min(left(lines, spent, moves)) >= 0]
            for moves in plain_moves(lines)[:200]:
                self.assertIs(shows_covered(lines, spent, Moved(moves)), moves in right)
                for at in range(len(moves)):
                    above = moves[:at] + (lines.caps[at] + 1,) + moves[at + 1:]
                    self.assertIs(shows_covered(lines, spent, Moved(above)), False)

    def test_lacking(self):
        rng = random.Random(63)
        for _ in range(200):
            lines = some_lines(rng)
            spent = some_spent(rng, lines)
            for i in range(-1, len(lines) + 2):
                for j in range(-1, len(lines) + 2):
                    inside = 1 <= i <= j <= len(lines)
                    expected = inside and sum(spent[i - 1:j]) > lines.reach(i, j)
                    self.assertIs(shows_covered(lines, spent, Lacking(i, j)), expected)

    def test_other_values(self):
        for value in ANY + [Moved, Lacking, (4, 0)]:
            self.assertIs(shows_covered(THREE, (0, 2, 1), value), False)
            self.assertIs(shows_covered(THREE, (0, 2, 1), Moved(value)), value == (4, 0))
            self.assertIs(shows_covered(THREE, (6, 0, 0), Lacking(value, 1)), type(value) is int and value == 1)
            self.assertIs(shows_covered(THREE, (6, 0, 0), Lacking(1, value)), type(value) is int and value == 1)
            self.assertIs(shows_covered(ONE, (7,), Moved(value)), value == ())
        for moves in ([4, 0], (4, False), (4,), (4, 0, 0), ((4, 0),), (5, 1), (1, 0), (4, -1), ("4", 0)):
            self.assertIs(shows_covered(THREE, (0, 2, 1), Moved(moves)), False)
        self.assertIs(shows_covered(THREE, [0, 2, 1], Moved((2, 0))), True)
        self.assertIs(shows_covered(lines=THREE, spent=(0, 0, 6), value=Lacking(3, 3)), True)


if __name__ == "__main__":
    unittest.main()
