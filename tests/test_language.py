"""The package keeps to its subset of Python, and its interface stands where it is told."""

import ast
import os
import tempfile
import unittest

from language import File, findings

FOLDER = os.path.join(os.path.dirname(os.path.dirname(os.path.abspath(__file__))), "stayhouse")

FUNCTIONS = {
    "checks": "is_integer is_within is_amount is_name", "words": "number_of", "promises": "greatest",
    "look_promises": "shows_tops", "rows": "rows", "places": "taken there offer enough judged_places least_bays",
    "look_places": "shows_places", "lockers": "free_lockers judged_hall most_there least_racks", "look_lockers": "shows_hall",
    "carts": "gate_for back_of take give", "cart_needs": "need_of own_need most_out", "look_carts": "shows_need",
    "lines": "covered", "line_needs": "spent_in need_of_lines line_needs least_sums own_spent",
    "look_purse": "shows_covered shows_need_of_lines", "beats": "begin asked behind_coming behind_going",
    "plays": "played first_refusal whole_behind", "judge": "judge is_safe shortest_refusal needs least_stocks", "look_judge": "shows_judge",
    "compared": "alike never_more spoils spoilers closer", "look_compared": "shows_alike shows_never",
    "fills": "fill_of is_sellable", "look_nights": "shows_fill shows_closed shows_open", "texts": "plan_text house_text door_text",
    "reader": "read_plan read_house read_door",
}

# The methods that stand in the body of each class itself.
CLASSES = {
    "papers": {"Paper": "", "Denial": "__bool__"},
    "counts": {"Counts": "__init__ of read __len__ __iter__ __contains__ __getitem__ __add__ __sub__ __and__ __or__ __le__ "
                         "__ge__ __lt__ __gt__ __mul__ __eq__ __str__"},
    "wishes": {"Wish": "__init__ with_picks with_price keep_at __eq__ __str__ read"},
    "limits": {"Limit": "__init__ of weigh keeps __add__ __sub__ __eq__ __str__ read", "YearLimit": "__init__ of read"},
    "promises": {"Promise": "__init__ of __len__ __iter__ __contains__ __and__ __eq__ __str__ read keeps can_come standings "
                            "years peaks year_peaks __le__ needless"},
    "rows": {"Row": "__init__ of __len__ __iter__ __add__ front only __eq__ broken is_let __str__ read"},
    "sites": {"Site": "__init__ with_hall with_gate with_line __eq__ __str__ read"},
    "plans": {"Plan": "__init__ __getitem__ __contains__ __len__ __iter__ site_of fitting_of with_wish with_site with_promise "
                      "with_fitting __eq__"},
    "racks": {"Rack": "__init__ of __getitem__ from_size __iter__ __len__ __contains__ __add__ __sub__ __le__ __lt__ __ge__ "
                      "__gt__ __and__ __or__ __mul__ __eq__ __str__ read"},
    "fittings": {"Fitting": "__call__ __or__ read", "Least": "__call__ __eq__ __str__", "Greatest": "__call__ __eq__ __str__",
                 "Order": "__init__ __call__ __eq__ __str__", "By": "__init__ __call__ __eq__ __str__"},
    "places": {"PlaceWeb": "__init__ __len__ __iter__ __contains__ steps row_to refused __bool__ refusal", "Housed": "__init__",
               "Crowded": "__init__"},
    "lockers": {"LockerWeb": "__init__ __len__ __iter__ __contains__ steps row_to refused __bool__ refusal", "Fits": "__init__",
                "Short": "__init__"},
    "cart_needs": {"CartNeed": "__init__", "CartRing": "__init__"},
    "line_needs": {"LineNeed": "__init__", "LineRing": "__init__"},
    "lines": {"Lines": "__init__ __len__ __getitem__ __iter__ reach wanted can left_by __add__ __le__ __eq__ __str__ read",
              "Moved": "__init__", "Lacking": "__init__"},
    "stock": {"Stock": "__init__ rack __add__ __sub__ __le__ with_bays with_rack with_carts with_sum with_cap __eq__ __str__ read"},
    "beats": {"Given": "__init__"},
    "house": {"House": "__init__ come go __getitem__ __setitem__ __contains__ __len__ __iter__ wish_of plan now so_far free_bays "
                       "carts_now left moved_on whole free_in stock set_stock history undo redo trial tried led __eq__"},
    "judge": {"Safe": "__init__", "Unsafe": "__init__", "Needs": "__init__"},
    "compared": {"Alike": "__init__", "Parted": "__init__", "Never": "__init__", "More": "__init__"},
    "stays": {"Stay": "__init__ nights __contains__ __lshift__ __rshift__ __le__ __eq__ __str__ read"},
    "books": {"Book": "__init__ none __call__ let_stays row_for fills __or__ __and__ __le__ __eq__ __str__ read"},
    "calendars": {"Sale": "__init__ __eq__ __str__",
                  "Calendar": "__init__ __getitem__ __len__ __iter__ __contains__ __add__ __sub__ free_on supply standing_on sold as_row "
                              "__eq__ __str__ read"},
    "fills": {"Fill": "__init__", "Bar": "__init__"},
    "door": {"Open": "", "Closed": "__init__",
             "Door": "__init__ of why sell __setitem__ cancel offers __getitem__ __len__ __iter__ __contains__ calendar_now undo deeds trial tried "
                     "twin __eq__"},
    "inn": {"Inn": "__init__ sell __setitem__ cancel come go dawn __getitem__ __len__ __iter__ __contains__ today present due deeds row_now "
                   "house_now calendar_now door_now undo trial tried twin __eq__"},
    "desk": {"Desk": "__init__ say __call__ run inn_now"},
}


REACHING = """
class Box:
    def __init__(self, rows):
        self.rows = rows

    def __le__(self, other):
        return {call}

    def __eq__(self, other):
        return isinstance(other, Box) and self.rows == other.rows

    @property
    def told(self):
        return len(self.rows)


def all_of(box):
    return list(rows_of(box))


def rows_of(box):
    for row in box.rows:
        yield row
"""


class LanguageTest(unittest.TestCase):
    def test_rules(self):
        self.assertEqual(findings(FOLDER), [])

    def test_operators_reach_no_generator(self):
        for call, expected in (("self.told <= other.told", []), ("len(all_of(self)) <= 1", ["L28 generator box.py:22"])):
            with tempfile.TemporaryDirectory() as folder:
                with open(os.path.join(folder, "box.py"), "w", encoding="utf-8") as file:
                    file.write('"""Boxes."""\n' + REACHING.replace("{call}", call))
                self.assertEqual(findings(folder), expected, call)

    def test_functions_stand_in_their_files(self):
        for name, functions in FUNCTIONS.items():
            found = [node.name for node in File(os.path.join(FOLDER, f"{name}.py")).tree.body if isinstance(node, ast.FunctionDef)]
            self.assertEqual(set(functions.split()) - set(found), set(), name)

    def test_methods_stand_in_their_classes(self):
        for name, classes in CLASSES.items():
            file = File(os.path.join(FOLDER, f"{name}.py"))
            found = {node.name: [one.name for one in node.body if isinstance(one, ast.FunctionDef)] for node in file.classes}
            for kind, methods in classes.items():
                self.assertIn(kind, found)
                self.assertEqual(set(methods.split()) - set(found[kind]), set(), kind)


if __name__ == "__main__":
    unittest.main()
