"""Wishes: what a guest wants."""

from stayhouse.checks import GREATEST, MOST_SIZE, is_name, is_sequence, is_within
from stayhouse.errors import BadText, BadWish, NoSite
from stayhouse.words import end_at, name_at, number_at, stand_at, word_at, words_of

MOST_PICKS = 8


def are_picks(picks):
    """Whether any value is a list or tuple of 1 to 8 pairs (site, keep), no site twice."""
    if not is_sequence(picks) or not 1 <= len(picks) <= MOST_PICKS:
        return False
    sites = []
    for pick in picks:
        if not isinstance(pick, tuple) or len(pick) != 2:
            return False
        site, keep = pick
        if not is_name(site) or site in sites or not is_within(keep, 0, GREATEST):
            return False
        sites.append(site)
    return True


def is_back(back, cart):
    """Whether any value is None or, for who wants a cart, the name of a gate."""
    return back is None or (cart and is_name(back))


class Wish:
    """What a guest wants: picks of sites, a locker, a cart, and what he pays."""

    def __init__(self, name, picks, size=0, cart=False, back=None, price=0):
        if not is_name(name):
            raise BadWish("name")
        if not are_picks(picks):
            raise BadWish("picks")
        if not is_within(size, 0, MOST_SIZE):
            raise BadWish("size")
        if not isinstance(cart, bool):
            raise BadWish("cart")
        if not is_back(back, cart):
            raise BadWish("back")
        if not is_within(price, 0, GREATEST):
            raise BadWish("price")
        self.name = name
        self.picks = tuple(picks)
        self.size = size
        self.cart = cart
        self.back = back
        self.price = price

    @classmethod
    def read(cls, text):
        """The Wish that a text tells."""
        words = words_of(text)
        name = name_at(words, 0)
        stand_at(words, 1, ":")
        picks, at = picks_at(words, 2)
        stand_at(words, at, ";")
        stand_at(words, at + 1, "size")
        size = number_at(words, at + 2, 0, MOST_SIZE)
        stand_at(words, at + 3, ";")
        stand_at(words, at + 4, "cart")
        cart, back, at = cart_at(words, at + 5)
        stand_at(words, at, ";")
        stand_at(words, at + 1, "price")
        price = number_at(words, at + 2, 0, GREATEST)
        end_at(words, at + 3)
        return cls(name, picks, size, cart, back, price)

    def with_picks(self, picks):
        """The Wish with other picks."""
        return Wish(self.name, picks, self.size, self.cart, self.back, self.price)

    def with_price(self, price):
        """The Wish with another price."""
        return Wish(self.name, self.picks, self.size, self.cart, self.back, price)

    def keep_at(self, site):
        """The keep of the pick of a site."""
        for name, keep in self.picks:
            if name == site:
                return keep
        raise NoSite(site)

    def __eq__(self, other):
        return isinstance(other, Wish) and parts_of(self) == parts_of(other)

    def __str__(self):
        return f"{self.name} : {picks_text(self)} ; size {self.size} ; cart {cart_text(self)} ; price {self.price}"


def parts_of(wish):
    """All attributes of a wish."""
    return wish.name, wish.picks, wish.size, wish.cart, wish.back, wish.price


def picks_text(wish):
    """What the text of a wish tells of his picks."""
    return " , ".join([f"{site} {keep}" for site, keep in wish.picks])


def cart_text(wish):
    """What the text of a wish tells of his cart."""
    if not wish.cart:
        return "none"
    return "same" if wish.back is None else f"to {wish.back}"


def picks_at(words, at):
    """The picks that stand from an index on; the index behind them."""
    sites = []
    picks = []
    while True:
        site = name_at(words, at)
        if site in sites:
            raise BadText(0, at)
        sites.append(site)
        picks.append((site, number_at(words, at + 1, 0, GREATEST)))
        at += 2
        # Behind the last pick that fits, a comma cannot stand.
        if len(picks) == MOST_PICKS or word_at(words, at) != ",":
            return picks, at
        at += 1


def cart_at(words, at):
    """Whether a cart is wanted, its gate back, and the index behind the words that tell it."""
    word = word_at(words, at)
    if word == "to":
        return True, name_at(words, at + 1), at + 2
    if word not in ("none", "same"):
        raise BadText(0, at)
    return word == "same", None, at + 1
