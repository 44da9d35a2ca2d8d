"""The examples of the document, as they stand."""

import unittest

from helpers import StayTest, run_examples

PAPERS = """
>>> from stayhouse.checks import is_amount, is_name
>>> from stayhouse.errors import Refused, StayError, TooMany
>>> from stayhouse.words import number_of
>>> [is_amount(0), is_amount(True), is_name("abcdefgh"), is_name("a1"), number_of("07", 0, 9), number_of("-3", -5, 5)]
[True, False, True, False, None, -3]
>>> [Refused("carts", "family").wish, TooMany("standings", 20000).most, isinstance(Refused("carts", "a"), StayError), isinstance(Refused("carts", "a"), TooMany)]
['family', 20000, True, False]
"""

COUNTS = """
>>> from stayhouse.counts import Counts
>>> some, more = Counts(adult=2, child=1), Counts.of({"child": 3, "dog": 0, "adult": 2})
>>> [str(some), str(more), more.total, some["child"], some["dog"], "dog" in more, list(more), str(some + more), str(more - some)]
['adult 2 child 1', 'adult 2 child 3', 5, 1, 0, False, ['adult', 'child'], 'adult 4 child 4', 'child 2']
>>> [some <= more, more <= some, some < some, str(some & Counts(child=5)), str(some | Counts(child=5)), str(some * 3), str(some * 0), Counts.read("adult 2 child 1") == some]
[True, False, False, 'child 1', 'adult 2 child 5', 'adult 6 child 3', '-', True]
>>> some - more
raises BadCounts('less')
>>> Counts(adult=-1)
raises BadNumber(-1)
>>> Counts.read("adult 0")
raises BadText(0, 1)
>>> Counts.read("child 1 adult 2")
raises BadText(0, 2)
"""

WISHES = """
>>> from stayhouse.wishes import Wish
>>> family = Wish("family", [("lake", 0), ("wood", 1)], size=2, cart=True, back="north", price=30)
>>> [str(family), str(Wish("lone", (("wood", 0),))), family.keep_at("wood"), str(family.with_price(7))[-7:], Wish.read(str(family)) == family]
['family : lake 0 , wood 1 ; size 2 ; cart to north ; price 30', 'lone : wood 0 ; size 0 ; cart none ; price 0', 1, 'price 7', True]
>>> Wish("lone", [("wood", 0)], back="north")
raises BadWish('back')
>>> Wish.read("lone : wood 0 ; size 0 ; cart to")
raises BadText(0, 10)
"""

LIMITS = """
>>> from stayhouse.counts import Counts
>>> from stayhouse.limits import Limit, YearLimit
>>> beds, quiet, many = Limit(4, adult=1, child=1), Limit(2, dog=2, child=1), YearLimit(6, dog=3, adult=1)
>>> [str(beds), str(many), quiet.weigh(Counts(dog=1, child=1, adult=9)), str(beds + 2), many.YEARLY, Limit.read("year 6 : adult 1 dog 3") == many, Limit(1) == YearLimit(1)]
['once 4 : adult 1 child 1', 'year 6 : adult 1 dog 3', 3, 'once 6 : adult 1 child 1', True, True, False]
>>> Limit.read("once 4 : adult")
raises BadText(0, 4)
"""

PROMISES = """
>>> from stayhouse.look_promises import shows_tops
>>> from stayhouse.promises import Promise, greatest
>>> promise = Promise(beds, quiet, many)
>>> [promise.wishes, promise.counted, len(list(promise.standings())), [str(one) for one in promise.peaks()], [str(one) for one in promise.year_peaks()]]
[('adult', 'child', 'dog'), ('adult', 'dog'), 16, ['adult 2 child 2', 'adult 3 dog 1', 'adult 3 child 1', 'adult 4'], ['dog 2', 'adult 3 dog 1', 'adult 6']]
>>> [promise.keeps(Counts(dog=1), Counts(dog=2)), promise.keeps(Counts(), Counts(cat=1)), promise.can_come("dog"), greatest(promise, Counts(adult=10, child=7, dog=25)) == (55, Counts(adult=3, dog=1))]
[True, False, True, True]
>>> two, one = Promise(Limit(2, a=1)), Promise(Limit(1, a=1))
>>> [one <= two, two <= one, (two & one).needless(), Promise(Limit(2, a=1), Limit(5, a=2)).needless()]
[True, False, (0,), (0, 1)]
>>> [shows_tops(promise, promise.peaks(), promise.year_peaks()), shows_tops(promise, promise.peaks()[:3], promise.year_peaks())]
[True, False]
>>> Promise.read("once 2 : a 1 ; year 2")
raises BadText(0, 8)
"""

ROWS = """
>>> from stayhouse.rows import Row, rows
>>> row = Row("adult", "child", 0, "dog")
>>> [row.comings, row.there, str(row.standing), str(row.year), row.broken(promise), row.front(3).is_let(promise), str(row.only("child", "adult"))]
[('adult', 'child', 'dog'), (1, 2), 'child 1 dog 1', 'adult 1 child 1 dog 1', 3, True, 'adult child 0']
>>> [[str(row) for row in rows(one, 3)], [str(row) for row in rows(two, 2)], Row.read("a 0 a") == Row("a", 0, "a"), str(Row("a", "b", 1, 0, "b").only("b"))]
[['a 0 a'], ['a a', 'a 0'], True, 'b 0 b']
>>> Row.read("a 0 0")
raises BadText(0, 2)
"""

PLACES = """
>>> from stayhouse.look_places import shows_places
>>> from stayhouse.places import Crowded, Housed, PlaceWeb, enough, judged_places, least_bays, offer, taken
>>> from stayhouse.plans import Plan
>>> from stayhouse.sites import Site
>>> sites = [Site("near", "east", "front"), Site("far", "east", "back")]
>>> wishes = [Wish("rider", [("near", 0), ("far", 0)]), Wish("walker", [("far", 0)])]
>>> plan, bays = Plan(wishes, sites, Promise(Limit(2, rider=1, walker=1))), {"near": 1, "far": 2}
>>> [plan.names, plan.halls, plan.gates, plan.pairs[1:], plan.counted, str(plan.site_of("far")), str(enough(plan)), [str(one) for one in least_bays(plan)]]
[('rider', 'walker'), ('east',), ('back', 'front'), (('rider', 'near'), ('walker', 'far')), (), 'far east back 1', 'far 2 near 2', ['far 2']]
>>> held, web = (("rider", "far", 1), ("walker", "far", 1)), PlaceWeb(plan, bays)
>>> [str(taken(held)), offer(plan, bays, held, "rider"), offer(plan, {"far": 2}, held, "rider"), len(web), bool(web), web.row_to((held, ())), [step[:3] for step in web.steps((held, ()))]]
['far 2', 'near', None, 8, True, ('rider', 'rider', 0, 'walker'), [('go', 'rider', 'far'), ('go', 'walker', 'far')]]
>>> few = {"near": 1, "far": 1}
>>> [judged_places(plan, few) == Crowded(("walker", "walker")), len(PlaceWeb(plan, few).refused), shows_places(plan, bays, judged_places(plan, bays)), shows_places(plan, few, Crowded(("rider", "rider", 0, "walker"))), shows_places(plan, {"far": 2}, Housed((((), ()),)))]
[True, 2, True, True, False]
>>> Plan(wishes, sites[:1], Promise(Limit(2, rider=1, walker=1)))
raises NoSite('far')
"""

FITTINGS = """
>>> from stayhouse.fittings import By, Fitting, Greatest, Least, Order
>>> from stayhouse.racks import Rack
>>> rack, few = Rack(1, 0, 2), Rack.of({2: 1, 3: 1})
>>> [rack.nine[:4], rack.from_size(2), list(rack), rack <= few, few <= Rack(0, 0, 2), str(rack & few), str(rack | few), str(rack - Rack(1))]
[(1, 0, 2, 0), 2, [1, 3], False, True, '2 1 3 1', '1 1 3 2', '3 2']
>>> [Least()(rack, 2), Greatest()(rack, 1), Order({1: [3, 1]})(rack, 1), Order({1: [3, 1]})(rack, 2), (Order({2: [2]}) | Least())(rack, 2)]
[3, 3, 3, None, 3]
>>> Fitting.read("( order 1 : 3 1 , 2 : - | least )") == Order({2: (), 1: [3, 1]}) | Least()
True
>>> By(lambda free, size: 1)(few, 1)
raises BadRule('locker')
"""

LOCKERS = """
>>> from stayhouse.limits import Limit
>>> from stayhouse.lockers import LockerWeb, Short, free_lockers, judged_hall, least_racks, most_there
>>> from stayhouse.look_lockers import shows_hall
>>> from stayhouse.plans import Plan
>>> from stayhouse.promises import Promise
>>> from stayhouse.sites import Site
>>> from stayhouse.wishes import Wish
>>> bag, box = Wish("bag", [("bay", 0)], size=1), Wish("box", [("bay", 0)], size=2)
>>> plan, bays = Plan([bag, box], [Site("bay", "hall", "gate")], Promise(Limit(2, bag=1, box=1), Limit(1, box=1))), {"bay": 2}
>>> pair = Rack(1, 1)
>>> [judged_hall(plan, bays, "hall", pair) == Short(("bag", "bag", 0, "box")), most_there(plan, bays, "hall")[:3], [str(rack) for rack in least_racks(plan, bays, "hall")]]
[True, (2, 1, 0), ['2 2', '1 2 2 1']]
>>> apart = plan.with_promise(Promise(Limit(2, bag=1, box=2)))
>>> [[str(rack) for rack in least_racks(apart, bays, "hall")], shows_hall(apart, bays, "hall", pair, judged_hall(apart, bays, "hall", pair)), str(free_lockers(pair, (("bag", "bay", 2, 1),)))]
[['1 1 2 1'], True, '1 1']
"""

CARTS = """
>>> from stayhouse.carts import back_of, gate_for, give, take
>>> from stayhouse.cart_needs import most_out, need_of, own_need
>>> from stayhouse.counts import Counts
>>> from stayhouse.limits import Limit, YearLimit
>>> from stayhouse.look_carts import shows_need
>>> sites = [Site("near", "east", "front"), Site("far", "east", "back")]
>>> wishes = [Wish("rider", [("near", 0), ("far", 0)], cart=True), Wish("guide", [("near", 0)], cart=True, back="back")]
>>> twos = Limit(2, rider=1, guide=1)
>>> free, plan = Plan(wishes, sites, Promise(twos, Limit(1, guide=1))), Plan(wishes, sites, Promise(twos, Limit(1, guide=1), YearLimit(3, guide=1)))
>>> bays = {"near": 2, "far": 1}
>>> [plan.gates, gate_for(plan, "rider", "far"), back_of(plan, "rider", "far"), back_of(plan, "guide", "near")]
[('back', 'front'), 'back', 'back', 'back']
>>> [str(take(plan, Counts(front=2), "guide", "near")), str(give(plan, Counts(front=1), "guide", "near"))]
['front 1', 'back 1 front 1']
>>> [need_of(plan, bays, "front").number, need_of(plan, bays, "front").row, need_of(plan, bays, "back").number, bool(need_of(free, bays, "front"))]
[5, ('guide', 'rider', 0, 'guide', 2, 'guide', 3, 'rider'), 0, False]
>>> [own_need(plan, "front"), own_need(plan, "back"), own_need(free, "front"), most_out(plan)]
[5, 2, None, 2]
>>> found = need_of(plan, bays, "front")
>>> [len(found.heights), shows_need(plan, bays, "front", found), shows_need(plan, bays, "back", found), shows_need(free, bays, "front", need_of(free, bays, "front"))]
[18, True, False, True]
>>> take(plan, Counts(back=9), "rider", "near")
raises Refused('carts', 'rider')
>>> need_of(plan, {"near": 1}, "front")
raises NoBay('rider')
"""

PURSE = """
>>> from stayhouse.lines import Lacking, Lines, Moved, covered
>>> from stayhouse.look_purse import shows_covered, shows_need_of_lines
>>> from stayhouse.line_needs import least_sums, line_needs, need_of_lines, own_spent, spent_in
>>> three = Lines([5, 0, 5], [5, 0])
>>> [three.reach(1, 1), three.reach(2, 3), three.reach(3, 3), three.wanted((0, 5, 5)), three.can((0, 5, 5)), three.left_by([1, 4, 2]), three.wanted((1, 5, 5)), str(three), Lines.read("sums 7 ; caps -") == Lines((7,))]
[5, 10, 5, (0, 5, 0), True, (0, 0, 3), (1, 5, 0), 'sums 5 0 5 ; caps 5 0', True]
>>> [covered(three, (0, 5, 5)) == Moved((5, 0)), covered(three, (0, 0, 6)) == Lacking(3, 3), covered(three, (1, 5, 5)) == Lacking(1, 2), shows_covered(three, (0, 2, 1), Moved((4, 0))), shows_covered(three, (1, 5, 5), Lacking(1, 3))]
[True, True, True, True, True]
>>> sites = [Site("near", "east", "front", 1), Site("far", "east", "back", 2)]
>>> wishes = [Wish("rider", [("near", 0), ("far", 0)], price=5), Wish("walker", [("far", 0)], price=2)]
>>> plan = Plan(wishes, sites, Promise(Limit(2, rider=1, walker=1), YearLimit(3, rider=1), YearLimit(4, walker=1)))
>>> bays = {"near": 1, "far": 2}
>>> [line_needs(plan, bays), need_of_lines(plan, bays, 2, 2).row, spent_in(plan, bays, ("rider", "rider", 1, "rider"))]
[{(1, 1): 15, (1, 2): 23, (2, 2): 18}, ('rider', 'rider', 1, 'rider', 0, 'walker', 2, 'walker', 3, 'walker', 4, 'walker'), (5, 10)]
>>> [least_sums(plan, bays, (0,)), least_sums(plan, bays, (4,)), least_sums(plan, bays, (10,)), own_spent(plan, 2, 2), own_spent(plan, 1, 1)]
[(15, 18), (15, 14), (15, 8), 23, 15]
"""

HOUSES = """
>>> from stayhouse.beats import Given, asked, begin, behind_coming, behind_going
>>> from stayhouse.house import House
>>> from stayhouse.limits import Limit
>>> from stayhouse.plans import Plan
>>> from stayhouse.plays import first_refusal, played
>>> from stayhouse.promises import Promise
>>> from stayhouse.sites import Site
>>> from stayhouse.stock import Stock
>>> from stayhouse.wishes import Wish
>>> sites = [Site("near", "east", "front", 1), Site("far", "east", "back", 1)]
>>> wishes = [Wish("rider", [("near", 0), ("far", 0)], cart=True, price=5), Wish("walker", [("far", 0)], size=2)]
>>> plan = Plan(wishes, sites, Promise(Limit(3, rider=1, walker=1)))
>>> stock = Stock({"near": 1, "far": 2}, {"east": {1: 1, 3: 1}}, {"front": 2}, [8])
>>> [str(stock), Stock.read(str(stock)) == stock, str(stock.rack("east")), stock <= stock.with_sum(1, 9)]
['bays far 2 near 1 ; rack east 1 1 3 1 ; carts front 2 ; sums 8 ; caps -', True, '1 1 3 1', True]
>>> house = House(plan, stock)
>>> [house.come("ann", "rider") == Given("near", 0, "front", 1), house.come("bob", "walker") == Given("far", 3, None, None), str(house.free_bays), house.left, str(house.carts_now)]
[True, True, 'far 1', (3,), 'front 1']
>>> house.come("cid", "rider")
raises Refused('carts', 'rider')
>>> house.come("cid", "walker")
raises Refused('lockers', 'walker')
>>> [house.go("bob").site, str(house.now), str(house.so_far), house.undo(), "bob" in house, len(house.history), house.whole]
['far', 'rider 1', 'rider 1 walker 1', True, True, 2, (((('rider', 'near', 0), 1), (('walker', 'far', 3), 1)), (('back', 0), ('front', 1)), (5,))]
>>> [answer if isinstance(answer, str) else answer.site for answer in played(plan, stock, ("rider", "rider", "walker"))], first_refusal(plan, stock, ("rider", 0, "rider"))
(['near', 'carts', 'far'], (2, 'purse'))
"""


JUDGE = """
>>> from stayhouse.judge import Safe, Unsafe, is_safe, judge, least_stocks, needs, shortest_refusal
>>> sites = [Site("near", "east", "front", 1), Site("far", "west", "back", 2)]
>>> wishes = [Wish("rider", [("near", 0), ("far", 0)], cart=True, price=5), Wish("walker", [("far", 0)], size=2)]
>>> plan = Plan(wishes, sites, Promise(Limit(2, rider=1, walker=1), YearLimit(3, rider=1)))
>>> bays = {"near": 1, "far": 2}
>>> [needs(plan, bays).carts, needs(plan, bays).sums, [str(stock) for stock in least_stocks(plan, bays, [0])]]
[{'back': 1, 'front': 1}, {(1, 1): 15, (1, 2): 15, (2, 2): 10}, ['bays far 2 near 1 ; rack west 2 2 ; carts back 1 front 1 ; sums 15 10 ; caps 0']]
>>> stock = Stock(bays, {"west": {2: 2}}, {"back": 1, "front": 1}, [15, 10], [0])
>>> [is_safe(plan, stock), isinstance(judge(plan, stock), Safe), judge(plan, stock.with_carts("back", 0)) == Unsafe(("rider", "rider"), "carts")]
[True, True, True]
>>> [judge(plan, stock.with_sum(2, 9)) == Unsafe(("rider", "rider", 1, "rider"), "purse"), shortest_refusal(plan, stock.with_rack("west", [0, 1])), shortest_refusal(plan, stock.with_bays({"near": 2, "far": 2}))]
[True, ('walker', 'walker'), ('rider', 'rider')]
"""

LOOK_JUDGE = """
>>> from stayhouse.look_judge import shows_judge
>>> found, late = judge(plan, stock), Unsafe(("walker", 0, "rider", "rider"), "carts")
>>> [shows_judge(plan, stock, found), shows_judge(plan, stock.with_sum(1, 14), found), shows_judge(plan, stock.with_carts("back", 0), late), shows_judge(plan, stock, late), shows_judge(plan, stock.with_carts("back", 0), Unsafe(("rider", "rider"), "purse"))]
[True, False, True, False, False]
"""

COMPARED = """
>>> from stayhouse.compared import Alike, More, Parted, alike, closer, never_more, spoilers, spoils
>>> from stayhouse.house import House
>>> from stayhouse.limits import Limit
>>> from stayhouse.look_compared import shows_alike, shows_never
>>> from stayhouse.plans import Plan
>>> from stayhouse.promises import Promise
>>> from stayhouse.sites import Site
>>> from stayhouse.stock import Stock
>>> from stayhouse.wishes import Wish
>>> wishes = [Wish("light", [("bay", 0)]), Wish("packed", [("bay", 0)], size=1)]
>>> plan = Plan(wishes, [Site("bay", "hall", "gate", 1)], Promise(Limit(3, light=1, packed=1)))
>>> few, more = [House(plan, Stock({"bay": 2}, {"hall": {1: many}}, {}, [0])) for many in (1, 2)]
>>> [alike(few, more) == Parted(("packed", "packed"), "other"), never_more(few, more).row, never_more(more, few).row, closer(few, more), bool(alike(few, few))]
[True, ('packed', 'packed'), ('packed', 'packed', 'light'), 'apart', True]
>>> [spoils(few, more.stock).row, spoils(few, few.stock), list(spoilers(few))[:2]]
[('packed', 'packed', 'light'), None, [('bay bay', ('light', 'light', 'packed', 0, 'packed')), ('locker hall 1', ('packed', 'packed', 'light'))]]
>>> [shows_alike(few, more, Parted(("light", "packed", "packed"), "other")), shows_alike(few, more, Parted(("packed", "light", 1, "packed"), "other")), shows_never(more, few, More(("packed", "packed", "light")))]
[False, True, True]
>>> spoils(more, few.stock)
raises BadStock('less')
"""

STAYS = """
>>> from stayhouse.stays import Stay
>>> week = Stay(3, 10)
>>> [week.nights, 9 in week, 10 in week, True in Stay(0, 3), str(week >> 2), Stay(4, 6) <= week, Stay.read("3 to 10") == week]
[7, True, False, False, '5 to 12', True, True]
>>> Stay.read("3 to 2")
raises BadStay('after')
"""

BOOKS = """
>>> from stayhouse.books import Book
>>> book, odd = Book([3, 2]), Book([1], [], [1], [])
>>> [book.rows, str(odd), book(Stay(7, 9)), odd(Stay(3, 4)), [str(one) for one in book.let_stays(0, 4)], book.fills(Stay(0, 1)), book.fills(Stay(4, 11)), str(book | odd), book & odd == Book.none(), Book([2]) <= book]
[((2, 3),), '1 / -', True, False, ['0 to 2', '0 to 3', '1 to 3', '1 to 4', '2 to 4'], False, True, '1 2 3 / 2 3', True, True]
>>> [[str(one) for one in Book([3], [1]).row_for(Stay(1, 5))], Book([3], [1]).row_for(Stay(0, 2))]
[['1 to 2', '2 to 5'], None]
>>> Book.read("2 / 2")
raises BadText(0, 0)
"""

CALENDARS = """
>>> from stayhouse.calendars import Calendar, Sale
>>> hall = Calendar(2, 0, 5, Sale("ann", "adult", Stay(0, 3)), Sale("bo", "child", Stay(1, 3)))
>>> [[hall.free_on(day) for day in range(-1, 6)], [hall.supply(day) for day in range(6)], str(hall.standing_on(1)), str(hall["bo"]), str(hall - "ann"), str(hall.as_row())]
[[0, 1, 0, 0, 2, 2, 0], [1, -1, 0, 2, 0, -2], 'adult 1 child 1', 'bo child 1 to 3', 'rooms 2 days 0 to 5 ; bo child 1 to 3', 'adult child 0 1']
>>> hall + Sale("cy", "adult", Stay(2, 4))
raises BadCalendar('full')
"""

FILLS = """
>>> from stayhouse.fills import Bar, Fill, fill_of, is_sellable
>>> lone = Calendar(1, 0, 5, Sale("ann", "adult", Stay(1, 3)))
>>> [fill_of(lone, book) == Bar((0, 2, 3, 4, 5)), is_sellable(Calendar(10 ** 30, 0, 5), book), bool(fill_of(hall, book))]
[True, True, False]
"""

DOORS = """
>>> from stayhouse.door import Closed, Door
>>> from stayhouse.limits import Limit, YearLimit
>>> from stayhouse.promises import Promise
>>> door = Door(book, Promise(Limit(2, adult=1, child=1), YearLimit(2, adult=1)), 3, 0, 5)
>>> [[str(stay) for stay in door.offers("adult")], door.why("adult", Stay(1, 3)).word, door.why("child", Stay(0, 4)) == Closed("let", None)]
[['0 to 2', '0 to 3', '2 to 5', '3 to 5'], 'dead', True]
>>> door.sell("ann", "adult", Stay(0, 3))
>>> door["bo"] = ("adult", Stay(2, 5))
>>> [door.why("child", Stay(0, 3)) == Closed("promise", 2), bool(door.why("child", Stay(0, 2))), door.why("adult", Stay(0, 2)).word, door.undo(), door.deeds]
[True, True, 'year', 'sell', 1]
"""

LOOK_NIGHTS = """
>>> from stayhouse.look_nights import shows_closed, shows_fill, shows_open
>>> [shows_fill(lone, book, Bar((0, 2, 3))), shows_fill(Calendar(1, 0, 5), book, Fill(((Stay(0, 2), 1), (Stay(2, 5), 1)))), shows_closed(door, "child", Stay(0, 6), door.why("child", Stay(0, 6)))]
[False, True, True]
"""

INNS = """
>>> from stayhouse.inn import Inn
>>> ride, walk = Wish("rider", [("near", 0), ("far", 0)], cart=True, price=5), Wish("walker", [("far", 0)], size=2)
>>> town = Plan([ride, walk], [Site("near", "east", "front", 1), Site("far", "east", "back", 1)], Promise(Limit(3, rider=1, walker=1)))
>>> inn = Inn(town, Stock({"near": 1, "far": 2}, {"east": {1: 1, 3: 1}}, {"front": 2}, [8]), Book([1, 2, 3]), 2, 0, 4)
>>> inn.sell("ann", "rider", Stay(0, 2))
>>> inn["bob"] = ("walker", Stay(0, 1))
>>> [inn.due, inn.come("ann").site, inn.come("bob").site, inn.dawn(), inn.present, str(inn.row_now())]
[('ann', 'bob'), 'near', 'far', ('bob',), ('ann',), 'rider walker 1']
>>> inn.sell("cid", "rider", Stay(1, 3))
>>> inn.come("cid")
raises Refused('carts', 'rider')
>>> [inn.dawn(), inn.due, inn.undo(), inn.due, inn.undo(), inn.undo(), inn.present]
[('ann',), (), 'dawn', ('cid',), 'sell', 'dawn', ('ann', 'bob')]
"""

TEXTS = r"""
>>> from stayhouse.reader import read_door, read_house, read_plan
>>> from stayhouse.texts import door_text, house_text, plan_text
>>> plan = house.plan
>>> plan_text(plan).split("\n")
['lines 1', 'site far east back 1', 'site near east front 1', 'wish rider : near 0 , far 0 ; size 0 ; cart same ; price 5', 'wish walker : far 0 ; size 2 ; cart none ; price 0', 'promise once 3 : rider 1 walker 1']
>>> page = house_text(house)
>>> [page.split("\n")[6:], read_house(page) == house, read_house("\n".join(page.split("\n")[:8])).now["rider"], read_plan(plan_text(plan)) == plan]
[['stock bays far 2 near 1 ; rack east 1 1 3 1 ; carts front 2 ; sums 8 ; caps -', 'come ann rider', 'come bob walker'], True, 1, True]
>>> door_text(door).split("\n")
['book 2 3', 'promise once 2 : adult 1 child 1 ; year 2 : adult 1', 'calendar rooms 3 days 0 to 5 ; ann adult 0 to 3']
>>> read_door(door_text(door)) == door
True
>>> read_house(page + "\ncome bob walker")
raises BadText(9, 0)
>>> read_house(page + "\ngo")
raises BadText(9, 1)
>>> read_plan("lines 1\nsite near east front 1\nwish rider : far 0 ; size 0 ; cart none ; price 0\npromise once 2 : rider 1")
raises BadText(3, 0)
>>> read_plan("lines 1")
raises BadText(1, 0)
"""

DESKS = """
>>> from stayhouse.desk import Desk
>>> desk = Desk(inn)
>>> desk.run("today", "there", "due", "why rider 1 to 3", "offers walker", "bays", "left", "dawn", "row", "undo")
['0', 'ann bob', '-', 'open', '1 to 2 , 1 to 3 , 1 to 4 , 2 to 3 , 2 to 4 , 3 to 4', 'far 1', '3', 'bob', 'rider walker 1', 'dawn']
>>> [desk("come cid"), desk("sell cid rider 0 to 1"), desk("sell cid rider 1 to 2"), desk("come cid"), desk("go bob"), desk("calendar")]
['no cid', 'barred full', 'ok', 'barred day', 'far 3 - -', 'rooms 2 days 0 to 4 ; ann rider 0 to 2 ; bob walker 0 to 1 ; cid rider 1 to 2']
>>> desk("sell cid rider 3 to 3")
raises BadLine(5)
"""


class ExamplesTest(StayTest):
    def test_examples(self):
        names = {}
        for text in (PAPERS, COUNTS, WISHES, LIMITS, PROMISES, ROWS, PLACES, FITTINGS, LOCKERS, CARTS, PURSE, HOUSES,
                     JUDGE, LOOK_JUDGE, COMPARED, STAYS, BOOKS, CALENDARS, FILLS, DOORS, LOOK_NIGHTS, INNS, TEXTS, DESKS):
            run_examples(self, text, names)


if __name__ == "__main__":
    unittest.main()
