"""The interface: names and arguments, each defined in the file under which it is listed."""

import importlib
import inspect
import unittest

from stintpurse.benches import Bench
from stintpurse.bounds import FRONTS
from stintpurse.fronts import fronts

FUNCTIONS = {
    "pairs": {
        "is_pair": ("thing",),
        "is_row": ("thing",),
        "behind": ("row", "purse"),
        "whole": ("row",),
        "joined": ("one", "other"),
        "power": ("pair", "k"),
        "turned_row": ("row",),
        "heights": ("row",),
        "dips": ("row",),
    },
    "stretches": {
        "cut": ("row",),
        "stretches_hold": ("row", "thing"),
    },
    "forms": {
        "is_form": ("thing",),
        "form_of": ("row",),
        "form_row": ("form",),
        "rise": ("form",),
        "fall": ("form",),
        "least_of": ("form",),
        "turned_form": ("form",),
    },
    "merging": {
        "then_form": ("forms",),
        "beside_form": ("forms",),
        "times_form": ("k", "form"),
        "many_form": ("k", "form"),
    },
    "books": {
        "bookfault": ("thing",),
        "part_at": ("book", "place"),
        "changed": ("book", "place", "part"),
        "places_of": ("book",),
        "acts_in": ("book",),
        "gain_of": ("book",),
        "turned_book": ("book",),
    },
    "formed": {
        "form": ("book",),
        "least": ("book",),
        "forms_paper": ("book",),
        "paper_holds": ("book", "thing"),
    },
    "plans": {
        "planfault": ("book", "thing"),
        "pieces_of": ("book", "plan"),
        "plan_least": ("book", "plan"),
        "spelled": ("book", "plan"),
    },
    "best": {
        "best_plan": ("book",),
        "purse_paper": ("book",),
        "purse_holds": ("book", "thing"),
    },
    "orders": {
        "is_order": ("book", "thing"),
        "row_of": ("book", "order"),
        "order_least": ("book", "order"),
        "moved": ("book", "order", "move"),
    },
    "leads": {
        "leading": ("book", "order"),
        "leading_holds": ("book", "order", "thing"),
    },
    "ease": {
        "ease": ("book", "place"),
        "tight": ("book",),
    },
    "companies": {
        "put": ("company", "book"),
        "least_beside": ("book", "pair"),
        "least_ahead": ("book", "pair"),
        "least_after": ("book", "pair"),
    },
    "partings": {
        "parting": ("one", "other"),
        "parting_holds": ("one", "other", "thing"),
        "serves": ("one", "other"),
        "outdone": ("one", "other"),
    },
    "standings": {
        "begin": ("book",),
        "is_standing": ("book", "thing"),
        "is_ended": ("book", "standing"),
        "ways": ("book", "standing"),
        "gone": ("book", "standing", "way"),
        "act_at": ("book", "way"),
        "standing_text": ("book", "standing"),
    },
    "rests": {
        "rest": ("book", "standing"),
        "got": ("book", "standing"),
    },
    "safety": {
        "safe": ("book", "standing", "purse"),
        "lacks": ("book", "standing", "purse"),
        "safe_ways": ("book", "standing", "purse"),
        "greatest": ("book", "standing", "purse"),
        "reached": ("book", "standing", "purse"),
    },
    "going": {
        "part_rest": ("book", "standing", "place"),
        "stretch": ("book", "standing", "place"),
    },
    "fronts": {
        "fronts": ("book", "most"),
        "rows_through": ("book", "purse"),
        "row_at": ("book", "purse", "number"),
    },
    "texts": {
        "book_text": ("book",),
        "read_book": ("thing",),
        "form_text": ("form",),
        "read_form": ("thing",),
    },
}

CLASSES = {
    ("benches", "Bench"): {
        "__init__": ("self", "book", "purse", "guarded"),
        "go": ("self", "way"),
        "stretch": ("self", "place"),
        "put": ("self", "place", "book"),
        "join": ("self", "book"),
        "follow": ("self", "book"),
        "gift": ("self", "x"),
        "back": ("self",),
        "book": ("self",),
        "standing": ("self",),
        "holds": ("self",),
        "left": ("self",),
        "ways": ("self",),
        "is_safe": ("self",),
        "lacking": ("self",),
        "is_ended": ("self",),
        "deeds": ("self",),
        "log": ("self",),
        "twin": ("self",),
        "__len__": ("self",),
        "__eq__": ("self", "other"),
        "__str__": ("self",),
    },
    ("desk", "Desk"): {
        "__init__": ("self",),
        "say": ("self", "line"),
        "run": ("self", "lines"),
        "kept": ("self",),
    },
}


class Interface(unittest.TestCase):
    def test_functions_stand_where_they_are_listed(self):
        for file, functions in FUNCTIONS.items():
            module = importlib.import_module(f"stintpurse.{file}")
            for name, arguments in functions.items():
                function = getattr(module, name)
                self.assertEqual(function.__module__, f"stintpurse.{file}", name)
                self.assertEqual(tuple(inspect.signature(function).parameters), arguments, name)

    def test_methods_stand_in_their_class_itself(self):
        for (file, name), methods in CLASSES.items():
            made = getattr(importlib.import_module(f"stintpurse.{file}"), name)
            self.assertEqual(made.__module__, f"stintpurse.{file}", name)
            for method, arguments in methods.items():
                self.assertEqual(tuple(inspect.signature(vars(made)[method]).parameters), arguments, method)

    def test_what_is_handed_in_by_its_name(self):
        for function, name, plain in ((fronts, "most", FRONTS), (Bench.__init__, "guarded", False)):
            parameter = inspect.signature(function).parameters[name]
            self.assertEqual((parameter.kind, parameter.default), (inspect.Parameter.KEYWORD_ONLY, plain))
        with self.assertRaises(TypeError):
            fronts(("act", 1, 1), 7)
        with self.assertRaises(TypeError):
            Bench(("act", 1, 1), 7, True)


if __name__ == "__main__":
    unittest.main()
