"""The interface: names and arguments, each defined in the file under which it is listed."""

import importlib
import inspect
import unittest

FUNCTIONS = {
    "pairs": {
        "is_pair": ("thing",),
        "is_row": ("thing",),
        "behind": ("row", "purse"),
        "whole": ("row",),
        "joined": ("one", "other"),
        "power": ("pair", "k"),
        "turned_row": ("row",),
        "heights": ("row",),
        "dips": ("row",),
    },
    "stretches": {
        "cut": ("row",),
        "stretches_hold": ("row", "thing"),
    },
    "forms": {
        "is_form": ("thing",),
        "form_of": ("row",),
        "form_row": ("form",),
        "rise": ("form",),
        "fall": ("form",),
        "least_of": ("form",),
        "turned_form": ("form",),
    },
    "merging": {
        "then_form": ("forms",),
        "beside_form": ("forms",),
        "times_form": ("k", "form"),
        "many_form": ("k", "form"),
    },
    "books": {
        "bookfault": ("thing",),
        "part_at": ("book", "place"),
        "changed": ("book", "place", "part"),
        "places_of": ("book",),
        "acts_in": ("book",),
        "gain_of": ("book",),
        "turned_book": ("book",),
    },
    "formed": {
        "form": ("book",),
        "least": ("book",),
        "forms_paper": ("book",),
        "paper_holds": ("book", "thing"),
    },
    "plans": {
        "planfault": ("book", "thing"),
        "pieces_of": ("book", "plan"),
        "plan_least": ("book", "plan"),
        "spelled": ("book", "plan"),
    },
    "best": {
        "best_plan": ("book",),
        "purse_paper": ("book",),
        "purse_holds": ("book", "thing"),
    },
    "orders": {
        "is_order": ("book", "thing"),
        "row_of": ("book", "order"),
        "order_least": ("book", "order"),
        "moved": ("book", "order", "move"),
    },
    "leads": {
        "leading": ("book", "order"),
        "leading_holds": ("book", "order", "thing"),
    },
    "ease": {
        "ease": ("book", "place"),
        "tight": ("book",),
    },
    "companies": {
        "put": ("company", "book"),
        "least_beside": ("book", "pair"),
        "least_ahead": ("book", "pair"),
        "least_after": ("book", "pair"),
    },
    "partings": {
        "parting": ("one", "other"),
        "parting_holds": ("one", "other", "thing"),
        "serves": ("one", "other"),
        "outdone": ("one", "other"),
    },
    "standings": {
        "begin": ("book",),
        "is_standing": ("book", "thing"),
        "is_ended": ("book", "standing"),
        "ways": ("book", "standing"),
        "gone": ("book", "standing", "way"),
        "act_at": ("book", "way"),
        "standing_text": ("book", "standing"),
    },
    "rests": {
        "rest": ("book", "standing"),
        "got": ("book", "standing"),
    },
    "safety": {
        "safe": ("book", "standing", "purse"),
        "lacks": ("book", "standing", "purse"),
        "safe_ways": ("book", "standing", "purse"),
        "greatest": ("book", "standing", "purse"),
        "reached": ("book", "standing", "purse"),
    },
    "going": {
        "part_rest": ("book", "standing", "place"),
        "stretch": ("book", "standing", "place"),
    },
}


class Interface(unittest.TestCase):
    def test_functions_stand_where_they_are_listed(self):
        for file, functions in FUNCTIONS.items():
            module = importlib.import_module(f"stintpurse.{file}")
            for name, arguments in functions.items():
                function = getattr(module, name)
                self.assertEqual(function.__module__, f"stintpurse.{file}", name)
                self.assertEqual(tuple(inspect.signature(function).parameters), arguments, name)


if __name__ == "__main__":
    unittest.main()
