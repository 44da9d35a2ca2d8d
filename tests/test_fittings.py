"""Fittings of things: asked, joined, written, read and refused."""

import inspect
import itertools
import unittest

from stayhouse.counts import Counts
from stayhouse.errors import BadNumber, BadRule, BadStock, BadText, Nothing, StayError, TooMany
from stayhouse.fittings import By, Fitting, Greatest, Least, Order
from stayhouse.racks import Rack

from helpers import ANY, StayTest, is_any_integer

RACKS = [Rack(*numbers) for numbers in itertools.product(range(2), repeat=4)]
FULL = Rack(*[1] * 9)
ALL = [Least(), Greatest(), Order({}), Order({1: [3, 1]}), By(lambda free, size: None), Least() | Greatest()]
MOST_DEEP = Least()
for _ in range(100):
    MOST_DEEP = MOST_DEEP | Greatest()


def fitting_sizes(rack, size):
    return [locker for locker in range(size, 10) if rack.nine[locker - 1]]


class AskedTest(StayTest):
    def test_least_and_greatest(self):
        for rack in RACKS + [FULL]:
            for size in range(1, 10):
                sizes = fitting_sizes(rack, size)
                self.same(Least()(rack, size), sizes[0] if sizes else None)
                self.same(Greatest()(free=rack, size=size), sizes[-1] if sizes else None)

    def test_order(self):
        table = {1: [3, 1, 4], 2: (4, 2), 4: [], 3: [3, 3]}
        for rack in RACKS + [FULL]:
            for size in range(1, 10):
                free = [locker for locker in table.get(size, []) if rack.nine[locker - 1]]
                self.same(Order(table)(rack, size), free[0] if free else None)
        self.same(Order({9: [9]})(FULL, 9), 9)

    def test_wrong_arguments(self):
        for fitting in ALL:
            for value in ANY:
                if not isinstance(value, Rack):
                    self.raises(BadStock("free"), fitting, value, 1)
                    self.raises(BadStock("free"), fitting, value, None)
                if not is_any_integer(value, 1, 9):
                    self.raises(BadNumber(value), fitting, FULL, value)

    def test_table(self):
        self.same(Order({3: [4, 3], 1: (9, 1)}).table, ((1, (9, 1)), (3, (4, 3))))
        self.same(Order({}).table, ())
        self.same(Order(table={9: [9, 9]}).table, ((9, (9, 9)),))
        for value in ANY:
            if value != {}:
                self.raises(BadRule("table"), Order, value)
            if not is_any_integer(value, 2, 9):
                self.raises(BadRule("table"), Order, {1: [1], 2: [3, value]})
            if value not in ([], (), (1, 2)):
                self.raises(BadRule("table"), Order, {1: value})
            if not is_any_integer(value, 1, 9) and value.__class__ in (int, bool, str, type(None)):
                self.raises(BadRule("table"), Order, {value: []})
        for table in ({10: []}, {0: []}, {2: [1]}, {9: [10]}, {9: [8]}, {1: [0]}, {1: {1: 1}}, [(1, [1])]):
            self.raises(BadRule("table"), Order, table)

    def test_later_changes(self):
        lockers, table = [3], {}
        table[1] = lockers
        order = Order(table)
        lockers.insert(0, 1)
        table[2] = [2]
        self.same(order.table, ((1, (3,)),))
        self.same(order(FULL, 1), 3)


class ByTest(StayTest):
    def test_told(self):
        asked = []

        def work(free, size):
            asked.append((free, size))
            return size + 1 if size < 9 else None

        by = By(work)
        self.assertIs(by.work, work)
        self.assertIs(By(work=work).work, work)
        self.same([by(FULL, 1), by(FULL, 8), by(FULL, 9)], [2, 9, None])
        self.same(asked, [(FULL, 1), (FULL, 8), (FULL, 9)])
        self.same(By(Greatest())(FULL, 2), 9)

    def test_wrong_work(self):
        for value in ANY:
            if value is None or isinstance(value, (bool, int, str, tuple, list, dict)):
                self.raises(BadRule("work"), By, value)
            else:
                self.assertIs(By(value).work, value)

    def test_wrong_lockers(self):
        for value in ANY:
            for rack in (FULL, Rack(1, 0, 1)):
                by = By(lambda free, size: value)
                for size in (1, 2, 9):
                    if value is None:
                        self.assertIsNone(by(rack, size))
                    elif is_any_integer(value, size, 9) and rack.nine[value - 1]:
                        self.same(by(rack, size), value)
                    else:
                        self.raises(BadRule("locker"), by, rack, size)

    def test_errors_of_work(self):
        def told(free, size):
            raise Nothing()

        with self.assertRaises(BadRule) as caught:
            By(told)(FULL, 1)
        self.assertEqual(caught.exception.part, "work")
        self.assertIs(type(caught.exception.__cause__), Nothing)
        # A By that asks a By: its error is one of the package, too.
        inner = By(lambda free, size: 0)
        self.raises(BadRule("work"), By(lambda free, size: inner(free, size)), FULL, 1)
        self.raises(BadRule("locker"), inner, FULL, 1)
        self.raises(BadRule("work"), By(lambda free, size: Counts() - Counts(a=1)), FULL, 1)

    def test_other_errors_go_on(self):
        for error in (ValueError("x"), KeyError("x"), ZeroDivisionError(), RuntimeError()):
            def told(free, size):
                raise error

            with self.assertRaises(type(error)) as caught:
                By(told)(FULL, 1)
            self.assertIs(caught.exception, error)
        with self.assertRaises(TypeError) as caught:
            By(Counts())(FULL, 1)
        self.assertNotIsInstance(caught.exception, StayError)

    def test_arguments_come_first(self):
        asked = []
        by = By(lambda free, size: asked.append(1))
        self.raises(BadStock("free"), by, None, None)
        self.raises(BadNumber(0), by, FULL, 0)
        self.assertEqual(asked, [])


class JoinedTest(StayTest):
    def test_asked_only_then(self):
        asked = []

        def told(name, answer):
            def work(free, size):
                asked.append(name)
                return answer
            return By(work)

        self.same((told("a", 2) | told("b", 3))(FULL, 1), 2)
        self.assertEqual(asked, ["a"])
        self.same((told("c", None) | told("d", 3))(FULL, 1), 3)
        self.same((told("e", None) | told("f", None) | told("g", None))(FULL, 1), None)
        self.assertEqual(asked, ["a", "c", "d", "e", "f", "g"])
        self.raises(BadRule("locker"), told("h", None) | told("i", 0), FULL, 1)
        self.same((told("j", 1) | told("k", 0))(FULL, 1), 1)

    def test_told(self):
        joined = Order({1: [4], 2: [2]}) | Greatest()
        for rack in RACKS:
            for size in range(1, 6):
                self.same(joined(rack, size), Order({1: [4], 2: [2]})(rack, size) or Greatest()(rack, size))

    def test_wrong_other(self):
        for fitting in ALL + [MOST_DEEP]:
            for value in ANY:
                self.raises(BadRule("other"), lambda: fitting | value)

    def test_most_deep(self):
        deep = MOST_DEEP
        self.same([deep(Rack(1), 1), deep(Rack(), 1)], [1, None])
        self.assertEqual(str(deep).count("("), 100)
        for other in (Least(), deep):
            self.raises(TooMany("deep", 100), lambda: deep | other)
            self.raises(TooMany("deep", 100), lambda: other | deep)
        right = Least()
        for _ in range(99):
            right = Greatest() | right
        wide = right | right
        self.assertEqual(str(wide).count("("), 199)
        self.raises(TooMany("deep", 100), lambda: wide | Least())
        self.assertEqual(wide, Fitting.read(str(wide)))

    def test_kinds(self):
        for fitting in ALL:
            self.assertIsInstance(fitting, Fitting)
        self.assertEqual(list(inspect.signature(Order).parameters), ["table"])
        self.assertEqual(list(inspect.signature(By).parameters), ["work"])
        self.assertEqual(list(inspect.signature(Least()).parameters), ["free", "size"])

    def test_equality(self):
        work = lambda free, size: None
        same_ones = [(Least(), Least()), (Greatest(), Greatest()), (Order({1: [1]}), Order({1: (1,)})), (By(work), By(work)),
                     (Least() | By(work), Least() | By(work)), (Order({}), Order({}))]
        for one, other in same_ones:
            self.assertEqual(one, other)
            self.assertIs(one != other, False)
        ones = [one for one, _ in same_ones] + [Order({1: [2]}), Order({2: [2]}), Order({1: [1, 1]}), Order({1: []}), By(lambda free, size: None),
                                               Least() | Least(), By(work) | Least(), (Least() | Least()) | Least(), Least() | (Least() | Least())]
        for at, one in enumerate(ones):
            for other in ones[:at] + ANY:
                self.assertIs(one == other, False)
                self.assertIs(other == one, False)


class TextsTest(StayTest):
    def test_written(self):
        work = lambda free, size: None
        for fitting, text in (
            (Least(), "least"), (Greatest(), "greatest"), (By(work), "by"), (Order({}), "order -"), (Order({2: []}), "order 2 : -"),
            (Order({2: [3, 2], 1: [], 9: (9,)}), "order 1 : - , 2 : 3 2 , 9 : 9"), (Least() | By(work), "( least | by )"),
            (Order({1: [1]}) | (Least() | Order({})), "( order 1 : 1 | ( least | order - ) )"),
        ):
            self.assertEqual(str(fitting), text)

    def test_read(self):
        for fitting, longer in (
            (Least(), ()), (Greatest(), ()), (Order({}), ()), (Order({2: []}), ()), (Order({2: [3, 2], 1: [], 9: (9,)}), (4, 8, 9)),
            (Least() | Greatest(), ()), (Order({1: [1, 2]}) | (Least() | Order({})), ()),
        ):
            self.read_of(Fitting.read, fitting, longer)
        self.assertEqual(Fitting.read(text="least"), Least())
        self.assertEqual(Fitting.read(str(MOST_DEEP)), MOST_DEEP)

    def test_wrong_words(self):
        self.read_wrong(Fitting.read, {
            "": 0, "by": 0, "( by | least )": 1, "( least | by )": 3, "Least": 0, "least least": 1, "least |": 1, "least | least": 1,
            "( least )": 2, "( least | least": 4, "( least | least ) )": 5, "( least | least ) | least": 5, "( )": 1, "(": 1, ")": 0,
            "( least | least | least )": 4, "(least | least)": 0, "order": 1, "order least": 1, "order - -": 2, "order - ,": 2,
            "order 1": 2, "order 1 :": 3, "order 1 : ,": 3, "order 1 : 1 ,": 5, "order 1 : 1 , ,": 5, "order 1 : - 1": 4, "order 1 : 1 -": 4,
            "order 0 : 1": 1, "order 10 : 1": 1, "order 2 : 1": 3, "order 2 : 2 1": 4, "order 1 : 10": 3, "order 1 : 1 10": 4, "order 1 : 0": 3,
            "order 1 : 1 , 1 : 2": 5, "order 2 : 2 , 1 : 1": 5, "order 9 : 9 , 1 : 1": 5, "order 9 : 9 , 9 : 9": 5, "order 9 : 9 , 10 : 9": 5,
            "order 9 : 9 ,": 5, "order 1 : 1 ; least": 4, "order 1 : 1 | least": 4, "( order 1 : 1 , | least )": 6, "( order | least )": 2,
            "( order - , | least )": 3, "order 1 : 01": 3, "order 1 1": 2, "order : 1": 1, "order 1 : 2 , 3 4": 6,
        })

    def test_most_deep(self):
        self.raises(BadText(0, 100), Fitting.read, " ".join(["("] * 101))
        self.raises(BadText(0, 100), Fitting.read, " ".join(["("] * 101 + ["least"] + ["| least )"] * 101))
        self.raises(BadText(0, 100), Fitting.read, " ".join(["("] * 100))
        self.raises(BadText(0, 300), Fitting.read, " ".join(["( least |"] * 100 + ["( least"]))
        right = " ".join(["( least |"] * 100 + ["least"] + [")"] * 100)
        self.assertEqual(str(Fitting.read(right)), right)
        self.raises(BadText(0, 4), Fitting.read, "( least | (")
        # Side by side there may be more than a hundred.
        right = "( least | least )"
        for _ in range(6):
            right = f"( {right} | {right} )"
        self.assertEqual(str(Fitting.read(right)), right)

    def test_changed_texts(self):
        text = "( order 1 : 3 1 , 2 : - | least )"
        self.doubled(Fitting.read, text, {0: 14, 4: None, 5: None})
        self.exchanged(Fitting.read, text, {0: 1, 4: None, 5: 6, 6: 8})
        self.left_out(Fitting.read, text, {0: 9, 4: None, 5: None, 6: 7})
        text = "( least | ( greatest | order - ) )"
        self.doubled(Fitting.read, text, {0: 11, 3: 10, 8: 10})
        self.exchanged(Fitting.read, text, {0: 1, 3: 4, 8: None})
        self.left_out(Fitting.read, text, {0: 1, 3: 4, 8: 9})


if __name__ == "__main__":
    unittest.main()
