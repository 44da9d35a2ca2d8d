"""Wishes: made, written, read and refused."""

import inspect
import unittest

from stayhouse.errors import BadText, BadWish, NoSite
from stayhouse.wishes import Wish

from helpers import ANY, GREATEST, StayTest, is_any_integer, is_any_name

EIGHT = [(name, at) for at, name in enumerate("abcdefgh")]


class MadeTest(StayTest):
    def test_ordinary(self):
        wish = Wish("family", [("lake", 0), ("wood", 1)], 2, True, "north", 30)
        self.same([wish.name, wish.picks, wish.size, wish.cart, wish.back, wish.price],
                  ["family", (("lake", 0), ("wood", 1)), 2, True, "north", 30])
        self.assertEqual(wish, Wish(name="family", picks=(("lake", 0), ("wood", 1)), size=2, cart=True, back="north", price=30))

    def test_defaults(self):
        wish = Wish("lone", (("wood", 0),))
        self.same([wish.size, wish.cart, wish.back, wish.price], [0, False, None, 0])
        self.assertEqual(list(inspect.signature(Wish).parameters), ["name", "picks", "size", "cart", "back", "price"])

    def test_bounds(self):
        wish = Wish("abcdefgh", EIGHT, 9, True, "abcdefgh", GREATEST)
        self.same([wish.picks, wish.size, wish.price], [tuple(EIGHT), 9, GREATEST])
        self.same(Wish("a", [("a", GREATEST)]).picks, (("a", GREATEST),))
        self.assertEqual(Wish("a", [("a", 0)], cart=True).back, None)

    def test_wrong_name(self):
        for value in ANY:
            if is_any_name(value):
                self.assertEqual(Wish(value, [("a", 0)]).name, value)
            else:
                self.raises(BadWish("name"), Wish, value, [("a", 0)])

    def test_wrong_picks(self):
        for value in ANY:
            if value != [("a", 0)]:
                self.raises(BadWish("picks"), Wish, "a", value)
            if not is_any_name(value):
                self.raises(BadWish("picks"), Wish, "a", [("a", 0), (value, 0)])
            if not is_any_integer(value, 0, GREATEST):
                self.raises(BadWish("picks"), Wish, "a", [("a", 0), ("b", value)])
            if not isinstance(value, tuple) or value in ((), ("a",)):
                self.raises(BadWish("picks"), Wish, "a", (("b", 0), value))
        for picks in ([], (), EIGHT + [("i", 0)], [("a", 0), ("a", 1)], [("a", 0), ("b", 0), ("a", 0)], [["a", 0]],
                      [("a",)], [("a", 0, 0)], [(0, "a")], [("a", GREATEST + 1)], [("a", -1)], [("a", True)], {("a", 0): 1}):
            self.raises(BadWish("picks"), Wish, "a", picks)

    def test_wrong_size_cart_price(self):
        for value in ANY:
            if not is_any_integer(value, 0, 9):
                self.raises(BadWish("size"), Wish, "a", [("a", 0)], value)
            if value is not True and value is not False:
                self.raises(BadWish("cart"), Wish, "a", [("a", 0)], 1, value)
            if not is_any_integer(value, 0, GREATEST):
                self.raises(BadWish("price"), Wish, "a", [("a", 0)], 1, True, "b", value)

    def test_wrong_back(self):
        for value in ANY:
            if value is None or is_any_name(value):
                self.assertEqual(Wish("a", [("a", 0)], cart=True, back=value).back, value)
            else:
                self.raises(BadWish("back"), Wish, "a", [("a", 0)], cart=True, back=value)
            if value is not None:
                self.raises(BadWish("back"), Wish, "a", [("a", 0)], cart=False, back=value)

    def test_first_wrong_one(self):
        wrong = ["A", [], 10, 1, "A", -1]
        right = ["a", [("a", 0)], 1, True, "b", 1]
        for at, part in enumerate(["name", "picks", "size", "cart", "back", "price"]):
            self.raises(BadWish(part), Wish, *(right[:at] + wrong[at:]))

    def test_later_changes(self):
        picks = [("a", 0)]
        wish = Wish("a", picks)
        picks.append(("b", 0))
        self.same(wish.picks, (("a", 0),))
        other = wish.with_picks(picks)
        picks.clear()
        self.same([wish.picks, other.picks], [(("a", 0),), (("a", 0), ("b", 0))])


class OtherwiseTest(StayTest):
    def setUp(self):
        self.wish = Wish("family", [("lake", 0), ("wood", 3)], 2, True, "north", 30)

    def test_with_picks(self):
        self.assertEqual(self.wish.with_picks([("sea", 4)]), Wish("family", [("sea", 4)], 2, True, "north", 30))
        self.assertEqual(self.wish.with_picks(picks=EIGHT).picks, tuple(EIGHT))
        for value in ANY:
            if value != [("a", 0)]:
                self.raises(BadWish("picks"), self.wish.with_picks, value)
        self.assertEqual(self.wish.picks, (("lake", 0), ("wood", 3)))

    def test_with_price(self):
        self.assertEqual(self.wish.with_price(0), Wish("family", [("lake", 0), ("wood", 3)], 2, True, "north"))
        self.assertEqual(self.wish.with_price(price=GREATEST).price, GREATEST)
        for value in ANY:
            if not is_any_integer(value, 0, GREATEST):
                self.raises(BadWish("price"), self.wish.with_price, value)
        self.assertEqual(self.wish.price, 30)

    def test_keep_at(self):
        self.same([self.wish.keep_at("lake"), self.wish.keep_at(site="wood")], [0, 3])
        for value in ANY:
            self.raises(NoSite(value), self.wish.keep_at, value)

    def test_equality(self):
        parts = ["family", [("lake", 0), ("wood", 3)], 2, True, "north", 30]
        self.assertEqual(self.wish, Wish(*parts))
        for at, part in enumerate(["famil", [("wood", 3), ("lake", 0)], 3, None, None, 31]):
            if at != 3:
                self.assertNotEqual(self.wish, Wish(*parts[:at], part, *parts[at + 1:]))
        self.assertNotEqual(Wish("a", [("a", 0)], cart=True), Wish("a", [("a", 0)]))
        for value in ANY:
            self.assertIs(self.wish == value, False)


class TextsTest(StayTest):
    def test_written_and_read(self):
        for wish, text in (
            (Wish("lone", [("wood", 0)]), "lone : wood 0 ; size 0 ; cart none ; price 0"),
            (Wish("a", [("b", 1)], 9, True), "a : b 1 ; size 9 ; cart same ; price 0"),
            (Wish("a", [("c", 1), ("b", GREATEST)], 1, True, "to", GREATEST),
             f"a : c 1 , b {GREATEST} ; size 1 ; cart to to ; price {GREATEST}"),
            (Wish("price", EIGHT, 0, True, "cart", 7),
             "price : a 0 , b 1 , c 2 , d 3 , e 4 , f 5 , g 6 , h 7 ; size 0 ; cart to cart ; price 7"),
        ):
            self.assertEqual(str(wish), text)
            self.read_of(Wish.read, wish)
        self.assertEqual(Wish.read(text="a : b 1 ; size 9 ; cart same ; price 0").size, 9)

    def test_bounds(self):
        self.read_wrong(Wish.read, {
            f"a : b {GREATEST + 1} ; size 0 ; cart none ; price 0": 3,
            "a : b 0 ; size 10 ; cart none ; price 0": 6,
            f"a : b 0 ; size 0 ; cart none ; price {GREATEST + 1}": 12,
            "abcdefghi : b 0 ; size 0 ; cart none ; price 0": 0,
            "self : b 0 ; size 0 ; cart none ; price 0": 0,
            "a : self 0 ; size 0 ; cart none ; price 0": 2,
            "a : b 0 ; size 0 ; cart to self ; price 0": 10,
            "a : b 1" + "0" * 1000 + " ; size 0 ; cart none ; price 0": 3,
        })

    def test_picks(self):
        self.read_wrong(Wish.read, {
            "a : b 0 , b 1 ; size 0 ; cart none ; price 0": 5,
            "a : b 0 , c 0 , b 0": 8,
            "a : ; size 0 ; cart none ; price 0": 2,
            "a : b 0 , ; size 0 ; cart none ; price 0": 5,
            "a : a 0 , b 1 , c 2 , d 3 , e 4 , f 5 , g 6 , h 7 , i 8 ; size 0 ; cart none ; price 0": 25,
            "a : a 0 , b 1 , c 2 , d 3 , e 4 , f 5 , g 6 , h 7 ,": 25,
            "a : a 0 , b 1 , c 2 , d 3 , e 4 , f 5 , g 6 , h 7 , h": 25,
            "a : a 0 , b 1 , c 2 , d 3 , e 4 , f 5 , g 6 , h 7": 25,
        })

    def test_cart(self):
        self.read_wrong(Wish.read, {
            "lone : wood 0 ; size 0 ; cart to": 10,
            "lone : wood 0 ; size 0 ; cart to ;": 10,
            "lone : wood 0 ; size 0 ; cart": 9,
            "lone : wood 0 ; size 0 ; cart other ; price 0": 9,
            "lone : wood 0 ; size 0 ; cart none north ; price 0": 10,
            "lone : wood 0 ; size 0 ; cart same to north ; price 0": 10,
        })

    def test_changed_texts(self):
        text = "a : b 1 , c 2 ; size 9 ; cart to d ; price 3"
        # The second `to` is a gate.
        self.doubled(Wish.read, text, {12: 14})
        self.exchanged(Wish.read, text)
        self.left_out(Wish.read, text)
        text = "a : b 1 ; size 9 ; cart same ; price 3"
        self.doubled(Wish.read, text)
        self.exchanged(Wish.read, text)
        self.left_out(Wish.read, text)


if __name__ == "__main__":
    unittest.main()
