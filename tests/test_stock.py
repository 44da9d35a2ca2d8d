"""Stocks: made, joined, changed, written, read and refused."""

import random
import unittest

from helpers import ANY, StayTest, is_any_integer, is_any_name

from stayhouse.counts import Counts
from stayhouse.errors import BadNumber, BadStock, BadText, NoGate, NoHall
from stayhouse.racks import Rack
from stayhouse.stock import Stock

FULL = Stock({"n": 1, "s": 2}, {"h": {2: 3, 4: 1}}, {"g": 3}, [50, 20], [10])


def is_counts(value):
    """Whether any value is what bays and carts are told by."""
    if isinstance(value, Counts):
        return True
    return type(value) is dict and all(is_any_name(name) and is_any_integer(value[name], 0) for name in value)


def is_rack(value):
    """Whether any value is a Rack, or what Rack.of takes."""
    if type(value) is dict:
        return all(is_any_integer(size, 1, 9) and is_any_integer(value[size], 0) for size in value)
    if type(value) in (list, tuple):
        return len(value) <= 9 and all(is_any_integer(number, 0) for number in value)
    return isinstance(value, Rack)


def are_amounts(value):
    return type(value) in (list, tuple) and all(is_any_integer(number, 0) for number in value)


class MadeTest(StayTest):
    def test_attributes(self):
        self.assertEqual((FULL.bays, FULL.carts, FULL.racks), (Counts(n=1, s=2), Counts(g=3), (("h", Rack(0, 3, 0, 1)),)))
        self.same((FULL.sums, FULL.caps), ((50, 20), (10,)))
        least = Stock({})
        self.assertEqual((least.bays, least.carts, least.racks, least.sums, least.caps), (Counts(), Counts(), (), (), ()))
        told = Stock(Counts(s=1), {"z": Rack(1), "b": [0, 2], "c": (), "d": {9: 0}, "a": {1: 1}}, Counts(g=2), (7,))
        self.assertEqual(told.racks, (("a", Rack(1)), ("b", Rack(0, 2)), ("z", Rack(1))))
        self.same((told.sums, told.caps), ((7,), ()))
        self.assertEqual(Stock({"s": 0}, {"h": []}, {"g": 0}), least)
        self.assertEqual(Stock(bays={"s": 1}, racks=None, carts=None, sums=[0], caps=[]), Stock(Counts(s=1), {}, {}, (0,)))
        self.assertEqual(Stock({"s": 10 ** 39}).bays["s"], 10 ** 39)

    def test_later_changes_have_no_effect(self):
        bays, racks, carts, sums, caps = {"n": 1, "s": 2}, {"h": {2: 3, 4: 1}}, {"g": 3}, [50, 20], [10]
        stock = Stock(bays, racks, carts, sums, caps)
        bays["n"] = carts["g"] = sums[0] = caps[0] = 9
        racks["h"][2] = 9
        racks["k"] = [1]
        self.assertEqual(stock, FULL)
        self.assertEqual(racks, {"h": {2: 9, 4: 1}, "k": [1]})

    def test_wrong_parts_in_order(self):
        for value in ANY + [{"s": -1}, {"s": True}, {"S": 1}, {1: 1}]:
            if not is_counts(value):
                self.raises(BadStock("bays"), Stock, value)
                self.raises(BadStock("bays"), Stock, value, 5, 5, 5, 5)
                if value is not None:
                    self.raises(BadStock("carts"), Stock, {}, None, value)
                    self.raises(BadStock("carts"), Stock, {}, {}, value, 5, 5)
        for value in ANY + [{"h": 5}, {"h": [1], "k": None}, {"H": [1]}, {1: [1]}, {"h": [1] * 10}, {"h": {0: 1}}, {"h": {10: 1}},
                            {"h": [True]}, {"h": "1"}, {"h": {1: -1}}, [("h", Rack())]]:
            if value is not None and not (type(value) is dict and all(map(is_any_name, value)) and all(map(is_rack, value.values()))):
                self.raises(BadStock("racks"), Stock, {}, value)
                self.raises(BadStock("racks"), Stock, {}, value, 5, 5, 5)
        for value in ANY + [[1, -1], [True], ("1",)]:
            if not are_amounts(value):
                self.raises(BadStock("sums"), Stock, {}, None, None, value)
                self.raises(BadStock("sums"), Stock, {}, None, None, value, 5)
                self.raises(BadStock("caps"), Stock, {}, None, None, (), value)
            if not are_amounts(value) or len(value) != 2:
                self.raises(BadStock("caps"), Stock, {}, None, None, [1, 2, 3], value)
        for sums, caps in (((), (0,)), ((1,), (0,)), ((1, 2), ()), ((1, 2), (0, 0)), ((1, 2, 3), (1,))):
            self.raises(BadStock("caps"), Stock, {}, None, None, sums, caps)

    def test_rack(self):
        self.assertEqual(FULL.rack("h"), Rack(0, 3, 0, 1))
        for value in ANY + ["hh", "g"]:
            if value != "h":
                self.assertEqual(FULL.rack(value), Rack())


class JoinedTest(StayTest):
    def test_added_and_taken_away(self):
        other = Stock({"s": 1, "t": 4}, {"h": [5, 1], "k": [1]}, {"f": 2}, [1, 2], [3])
        self.assertEqual(FULL + other, Stock({"n": 1, "s": 3, "t": 4}, {"h": [5, 4, 0, 1], "k": [1]}, {"g": 3, "f": 2}, [51, 22], [13]))
        self.assertEqual((FULL + other) - other, FULL)
        self.assertEqual((FULL + other) - FULL, other)
        self.assertEqual(FULL - FULL, Stock({}, None, None, [0, 0], [0]))
        kept = FULL
        kept += other
        self.assertEqual(kept - other, FULL)

    def test_less(self):
        for less in (Stock({"n": 2}, None, None, [0, 0], [0]), Stock({"m": 1}, None, None, [0, 0], [0]),
                     Stock({}, {"h": [1]}, None, [0, 0], [0]), Stock({}, {"k": [1]}, None, [0, 0], [0]),
                     Stock({}, {"h": [0, 0, 1]}, None, [0, 0], [0]), Stock({}, None, {"g": 4}, [0, 0], [0]),
                     Stock({}, None, None, [51, 0], [0]), Stock({}, None, None, [0, 21], [0]), Stock({}, None, None, [0, 0], [11])):
            self.raises(BadStock("less"), lambda: FULL - less)
            self.assertEqual((less <= FULL, FULL <= less), (False, False))

    def test_at_most(self):
        rng = random.Random(81)
        for _ in range(200):
            one, other = [Stock({"s": rng.randint(0, 2)}, {"h": [rng.randint(0, 1), rng.randint(0, 1)]}, {"g": rng.randint(0, 1)},
                                [rng.randint(0, 1)] * 2, [rng.randint(0, 1)]) for _ in range(2)]
            expected = (one.bays["s"] <= other.bays["s"] and one.carts["g"] <= other.carts["g"] and one.sums <= other.sums and
                        one.caps <= other.caps and all(a <= b for a, b in zip(one.rack("h").nine, other.rack("h").nine)))
            self.assertIs(one <= other, expected)
            self.assertTrue(one <= one + other)
            if expected:
                self.assertEqual((other - one) + one, other)
            else:
                self.raises(BadStock("less"), lambda: other - one)
        # Size by size: a greater locker does not stand in for a lesser one.
        self.assertFalse(Stock({}, {"h": [1]}) <= Stock({}, {"h": [0, 5]}))

    def test_wrong_others(self):
        for value in ANY + [(), "bays", Counts(n=1)]:
            for work in (lambda: FULL + value, lambda: FULL - value, lambda: FULL <= value):
                self.raises(BadStock("other"), work)
            self.assertFalse(FULL == value)
        for other in (Stock({}), Stock({}, None, None, [1]), Stock({"x": 9}, None, None, [1, 2, 3], [1, 2])):
            for work in (lambda: FULL + other, lambda: FULL - other, lambda: FULL <= other):
                self.raises(BadStock("sums"), work)

    def test_equal(self):
        self.assertEqual(FULL, Stock(Counts(s=2, n=1), {"h": Rack(0, 3, 0, 1)}, Counts(g=3), (50, 20), (10,)))
        for other in (FULL.with_bays({"n": 1}), FULL.with_rack("h", [1]), FULL.with_carts("g", 2), FULL.with_sum(1, 49), FULL.with_cap(1, 0)):
            self.assertFalse(FULL == other)
            self.assertTrue(FULL != other)


class ChangedTest(StayTest):
    def test_other_parts(self):
        self.assertEqual(FULL.with_bays({"x": 1}), Stock({"x": 1}, {"h": {2: 3, 4: 1}}, {"g": 3}, [50, 20], [10]))
        self.assertEqual(FULL.with_rack("k", {1: 1}).racks, (("h", Rack(0, 3, 0, 1)), ("k", Rack(1))))
        self.assertEqual(FULL.with_rack("h", Rack()).racks, ())
        self.assertEqual(FULL.with_rack(hall="h", rack=(1, 1)).rack("h"), Rack(1, 1))
        self.assertEqual((FULL.with_carts("f", 2).carts, FULL.with_carts(gate="g", number=0).carts), (Counts(f=2, g=3), Counts()))
        self.assertEqual((FULL.with_sum(2, 7).sums, FULL.with_sum(line=1, amount=0).sums), ((50, 7), (0, 20)))
        self.assertEqual((FULL.with_cap(1, 7).caps, FULL.with_cap(line=1, amount=0).caps), ((7,), (0,)))
        three = Stock({}, None, None, [1, 2, 3, 4], [5, 6, 7])
        self.assertEqual([three.with_cap(line, 9).caps for line in (1, 2, 3)], [(9, 6, 7), (5, 9, 7), (5, 6, 9)])
        self.assertEqual([three.with_sum(line, 9).sums for line in (1, 2, 4)], [(9, 2, 3, 4), (1, 9, 3, 4), (1, 2, 3, 9)])
        self.assertEqual(str(FULL), "bays n 1 s 2 ; rack h 2 3 4 1 ; carts g 3 ; sums 50 20 ; caps 10")

    def test_wrong(self):
        for value in ANY + [3, 4, "self"]:
            if not is_counts(value):
                self.raises(BadStock("bays"), FULL.with_bays, value)
            if not is_any_name(value):
                self.raises(NoHall(value), FULL.with_rack, value, 5)
                self.raises(NoGate(value), FULL.with_carts, value, "x")
            if not is_rack(value):
                self.raises(BadStock("racks"), FULL.with_rack, "h", value)
            if not is_any_integer(value, 0):
                self.raises(BadStock("carts"), FULL.with_carts, "g", value)
                self.raises(BadStock("sums"), FULL.with_sum, 1, value)
                self.raises(BadStock("caps"), FULL.with_cap, 1, value)
            if not is_any_integer(value, 1, 2):
                self.raises(BadNumber(value), FULL.with_sum, value, "x")
            if not is_any_integer(value, 1, 1):
                self.raises(BadNumber(value), FULL.with_cap, value, "x")
        self.raises(BadNumber(2), FULL.with_cap, 2, 0)
        self.raises(BadNumber(3), FULL.with_sum, 3, 0)
        self.raises(BadNumber(1), Stock({}).with_sum, 1, 0)
        self.raises(BadNumber(1), Stock({}, None, None, [1]).with_cap, 1, 0)


class TextsTest(StayTest):
    def test_texts(self):
        self.assertEqual(str(Stock({})), "bays - ; carts - ; sums - ; caps -")
        two = Stock({"a": 1}, {"z": [1], "b": [0, 2]}, None, [0])
        self.assertEqual(str(two), "bays a 1 ; rack b 2 2 ; rack z 1 1 ; carts - ; sums 0 ; caps -")
        great = Stock({"a": 10 ** 999}, {"b": [10 ** 999]}, {"c": 10 ** 999}, [10 ** 999, 0], [10 ** 999])
        for stock in (FULL, two, great, Stock({}), Stock({}, None, None, [1, 2, 3], [0, 0])):
            self.assertEqual(Stock.read(str(stock)), stock)
            self.assertEqual(str(Stock.read(str(stock))), str(stock))

    def test_words(self):
        self.read_of(Stock.read, Stock({}))
        self.read_of(Stock.read, Stock({"s": 1}, {"h": [1]}, {"g": 3}, [5], []))
        # A second `bays`, a second `carts` can be a name.
        self.doubled(Stock.read, "bays - ; carts - ; sums - ; caps -", {0: 2, 3: 5})
        self.exchanged(Stock.read, "bays - ; carts - ; sums - ; caps -")
        self.left_out(Stock.read, "bays - ; carts - ; sums - ; caps -")

    def test_words_left_out_put_in_and_exchanged(self):
        def read(text):
            # Where all words can stand, the class refuses another number of caps.
            try:
                return Stock.read(text)
            except BadStock as error:
                self.assertEqual(error.part, "caps")
                return None
        text = "bays s 1 ; rack h 1 2 ; carts g 3 ; sums 5 0 ; caps 7"
        self.doubled(read, text, {0: 2, 4: 6, 6: 9, 7: 9, 9: 11, 14: None, 15: None, 18: None})
        self.exchanged(read, text, {6: None, 12: 13, 14: None, 15: 16})
        self.left_out(read, text, {6: 7, 12: 14, 14: None, 15: None})

    def test_wrong_texts(self):
        self.read_wrong(Stock.read, {
            "": 0, "-": 0, "bays": 1, "bays -": 2, "bays - ;": 3, "bays - ; carts": 4, "bays - ; carts -": 5, "bays - ; carts - ;": 6,
            "bays - ; carts - ; sums": 7, "bays - ; carts - ; sums -": 8, "bays - ; carts - ; sums - ;": 9, "bays - ; carts - ; sums - ; caps": 10,
            "bays - ; carts - ; sums - ; caps - -": 11, "bays - ; carts - ; sums - ; caps - ;": 11, "bays s ; carts -": 2, "bays s 0 ; carts -": 2,
            "bays s 1 a 1 ; carts -": 3, "bays s 1 s 1 ; carts -": 3, "bays - s 1": 2, "bays - ; rack": 4, "bays - ; rack h": 5, "bays - ; rack h -": 5,
            "bays - ; rack h - ; carts -": 5, "bays - ; rack h 1 0": 6, "bays - ; rack h 0 1": 5, "bays - ; rack h 10 1": 5, "bays - ; rack h 2 1 1 1": 7,
            "bays - ; rack h 1 1": 7, "bays - ; rack h 1 1 ;": 8, "bays - ; rack h 1 1 ; rack h 1 1": 9, "bays - ; rack h 1 1 ; rack g 1 1": 9,
            "bays - ; rack h 1 1 ; rack k -": 10, "bays - ; rack self 1 1": 4, "bays - ; carts - ; rack h 1 1": 6, "bays - ; carts g": 5,
            "bays - ; carts g 1 ; sums 1 -": 9, "bays - ; carts - ; sums 01 ; caps -": 7, "bays - ; carts - ; sums -1 ; caps -": 7,
            "bays - ; carts - ; sums 1 -1 ; caps -": 8, "bays - ; carts - ; sums - 1 ; caps -": 8, "bays - ; carts - ; sums ; caps -": 7,
            "bays - ; carts - ; sums 1 ; caps x": 10, "bays - ; carts - ; sums 1 ; caps 1 x": 11, "bays -  ; carts -": 2, "bays -; carts -": 1,
            "bays - ; carts - ; sums - ; caps -\n": 10, "bays s 1" + "0" * 1000 + " ; carts -": 2, "bays - ; carts - ; sums 1" + "0" * 1000: 7,
        })

    def test_any_number_of_caps_can_stand(self):
        for text in ("sums - ; caps 1", "sums 1 ; caps 1", "sums 1 2 ; caps -", "sums 1 2 ; caps 1 2", "sums 1 2 3 ; caps 1", "sums - ; caps 1 2 3"):
            self.raises(BadStock("caps"), Stock.read, "bays - ; carts - ; " + text)
        self.assertEqual(Stock.read("bays - ; carts - ; sums 1 2 3 4 5 6 7 ; caps 1 2 3 4 5 6").sums, (1, 2, 3, 4, 5, 6, 7))

    def test_names_of_words(self):
        stock = Stock({"carts": 1}, {"bays": [1], "rack": [1]}, {"caps": 1, "sums": 2})
        self.assertEqual(Stock.read(str(stock)), stock)
        self.raises(BadText(0, 4), Stock.read, "bays a 1 carts - ; sums - ; caps -")


if __name__ == "__main__":
    unittest.main()
