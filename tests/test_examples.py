"""The examples of the document, as they stand."""

import unittest

from helpers import StayTest, run_examples

PAPERS = """
>>> from stayhouse.checks import is_amount, is_name
>>> from stayhouse.errors import Refused, StayError, TooMany
>>> from stayhouse.words import number_of
>>> [is_amount(0), is_amount(True), is_name("abcdefgh"), is_name("a1"), number_of("07", 0, 9), number_of("-3", -5, 5)]
[True, False, True, False, None, -3]
>>> [Refused("carts", "family").wish, TooMany("standings", 20000).most, isinstance(Refused("carts", "a"), StayError), isinstance(Refused("carts", "a"), TooMany)]
['family', 20000, True, False]
"""

COUNTS = """
>>> from stayhouse.counts import Counts
>>> some, more = Counts(adult=2, child=1), Counts.of({"child": 3, "dog": 0, "adult": 2})
>>> [str(some), str(more), more.total, some["child"], some["dog"], "dog" in more, list(more), str(some + more), str(more - some)]
['adult 2 child 1', 'adult 2 child 3', 5, 1, 0, False, ['adult', 'child'], 'adult 4 child 4', 'child 2']
>>> [some <= more, more <= some, some < some, str(some & Counts(child=5)), str(some | Counts(child=5)), str(some * 3), str(some * 0), Counts.read("adult 2 child 1") == some]
[True, False, False, 'child 1', 'adult 2 child 5', 'adult 6 child 3', '-', True]
>>> some - more
raises BadCounts('less')
>>> Counts(adult=-1)
raises BadNumber(-1)
>>> Counts.read("adult 0")
raises BadText(0, 1)
>>> Counts.read("child 1 adult 2")
raises BadText(0, 2)
"""

WISHES = """
>>> from stayhouse.wishes import Wish
>>> family = Wish("family", [("lake", 0), ("wood", 1)], size=2, cart=True, back="north", price=30)
>>> [str(family), str(Wish("lone", (("wood", 0),))), family.keep_at("wood"), str(family.with_price(7))[-7:], Wish.read(str(family)) == family]
['family : lake 0 , wood 1 ; size 2 ; cart to north ; price 30', 'lone : wood 0 ; size 0 ; cart none ; price 0', 1, 'price 7', True]
>>> Wish("lone", [("wood", 0)], back="north")
raises BadWish('back')
>>> Wish.read("lone : wood 0 ; size 0 ; cart to")
raises BadText(0, 10)
"""

LIMITS = """
>>> from stayhouse.counts import Counts
>>> from stayhouse.limits import Limit, YearLimit
>>> beds, quiet, many = Limit(4, adult=1, child=1), Limit(2, dog=2, child=1), YearLimit(6, dog=3, adult=1)
>>> [str(beds), str(many), quiet.weigh(Counts(dog=1, child=1, adult=9)), str(beds + 2), many.YEARLY, Limit.read("year 6 : adult 1 dog 3") == many, Limit(1) == YearLimit(1)]
['once 4 : adult 1 child 1', 'year 6 : adult 1 dog 3', 3, 'once 6 : adult 1 child 1', True, True, False]
>>> Limit.read("once 4 : adult")
raises BadText(0, 4)
"""

PROMISES = """
>>> from stayhouse.look_promises import shows_tops
>>> from stayhouse.promises import Promise, greatest
>>> promise = Promise(beds, quiet, many)
>>> [promise.wishes, promise.counted, len(list(promise.standings())), [str(one) for one in promise.peaks()], [str(one) for one in promise.year_peaks()]]
[('adult', 'child', 'dog'), ('adult', 'dog'), 16, ['adult 2 child 2', 'adult 3 dog 1', 'adult 3 child 1', 'adult 4'], ['dog 2', 'adult 3 dog 1', 'adult 6']]
>>> [promise.keeps(Counts(dog=1), Counts(dog=2)), promise.keeps(Counts(), Counts(cat=1)), promise.can_come("dog"), greatest(promise, Counts(adult=10, child=7, dog=25)) == (55, Counts(adult=3, dog=1))]
[True, False, True, True]
>>> two, one = Promise(Limit(2, a=1)), Promise(Limit(1, a=1))
>>> [one <= two, two <= one, (two & one).needless(), Promise(Limit(2, a=1), Limit(5, a=2)).needless()]
[True, False, (0,), (0, 1)]
>>> [shows_tops(promise, promise.peaks(), promise.year_peaks()), shows_tops(promise, promise.peaks()[:3], promise.year_peaks())]
[True, False]
>>> Promise.read("once 2 : a 1 ; year 2")
raises BadText(0, 8)
"""

ROWS = """
>>> from stayhouse.rows import Row, rows
>>> row = Row("adult", "child", 0, "dog")
>>> [row.comings, row.there, str(row.standing), str(row.year), row.broken(promise), row.front(3).is_let(promise), str(row.only("child", "adult"))]
[('adult', 'child', 'dog'), (1, 2), 'child 1 dog 1', 'adult 1 child 1 dog 1', 3, True, 'adult child 0']
>>> [[str(row) for row in rows(one, 3)], [str(row) for row in rows(two, 2)], Row.read("a 0 a") == Row("a", 0, "a"), str(Row("a", "b", 1, 0, "b").only("b"))]
[['a 0 a'], ['a a', 'a 0'], True, 'b 0 b']
>>> Row.read("a 0 0")
raises BadText(0, 2)
"""

# Those of the examples behind stayhouse/look_places.py that need no place.
PLANS = """
>>> from stayhouse.plans import Plan
>>> from stayhouse.sites import Site
>>> sites = [Site("near", "east", "front"), Site("far", "east", "back")]
>>> wishes = [Wish("rider", [("near", 0), ("far", 0)]), Wish("walker", [("far", 0)])]
>>> plan, bays = Plan(wishes, sites, Promise(Limit(2, rider=1, walker=1))), {"near": 1, "far": 2}
>>> [plan.names, plan.halls, plan.gates, plan.pairs[1:], plan.counted, str(plan.site_of("far"))]
[('rider', 'walker'), ('east',), ('back', 'front'), (('rider', 'near'), ('walker', 'far')), (), 'far east back 1']
>>> Plan(wishes, sites[:1], Promise(Limit(2, rider=1, walker=1)))
raises NoSite('far')
"""

FITTINGS = """
>>> from stayhouse.fittings import By, Fitting, Greatest, Least, Order
>>> from stayhouse.racks import Rack
>>> rack, few = Rack(1, 0, 2), Rack.of({2: 1, 3: 1})
>>> [rack.nine[:4], rack.from_size(2), list(rack), rack <= few, few <= Rack(0, 0, 2), str(rack & few), str(rack | few), str(rack - Rack(1))]
[(1, 0, 2, 0), 2, [1, 3], False, True, '2 1 3 1', '1 1 3 2', '3 2']
>>> [Least()(rack, 2), Greatest()(rack, 1), Order({1: [3, 1]})(rack, 1), Order({1: [3, 1]})(rack, 2), (Order({2: [2]}) | Least())(rack, 2)]
[3, 3, 3, None, 3]
>>> Fitting.read("( order 1 : 3 1 , 2 : - | least )") == Order({2: (), 1: [3, 1]}) | Least()
True
>>> By(lambda free, size: 1)(few, 1)
raises BadRule('locker')
"""


class ExamplesTest(StayTest):
    def test_examples(self):
        names = {}
        for text in (PAPERS, COUNTS, WISHES, LIMITS, PROMISES, ROWS, PLANS, FITTINGS):
            run_examples(self, text, names)


if __name__ == "__main__":
    unittest.main()
