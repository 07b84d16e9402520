"""[26], [27], [3] (a): companies, and books beside, behind and ahead of one more act."""

import random
import unittest

from samples import asked_twice, odd_things, spoiled
from worlds import (
    ACT, NONE, OPEN, act_count, chance_act, chance_book, chance_books, chance_company, far_books, nested, plain_least,
    row_book, wide_books,
)
from stintpurse.bounds import BOOKS, COPIES, DEEP, MOST
from stintpurse.books import bookfault, changed, gain_of, places_of, turned_book, with_part
from stintpurse.companies import least_after, least_ahead, least_beside, put
from stintpurse.errors import BadBook, BadCompany
from stintpurse.formed import form, least
from stintpurse.forms import fall, rise

DOWN = ("act", 5, 2)


def companies():
    """Companies, each with the place that is open."""
    return [
        (OPEN, ()), (("then", (OPEN,)), (0,)), (("beside", (ACT, OPEN, DOWN)), (1,)), (("times", 3, OPEN), (0,)),
        (("many", 0, ("then", (ACT, OPEN))), (0, 1)), (("many", COPIES, OPEN), (0,)),
        (("then", (("times", 2, ACT), ("beside", (NONE, ("many", 2, ("then", (OPEN, DOWN))))))), (1, 1, 0, 0)),
        (nested(DEEP - 1, OPEN), (0,) * (DEEP - 1)), (("then", (ACT,) * (BOOKS - 2) + (OPEN,)), (BOOKS - 2,)),
    ]


class Putting(unittest.TestCase):
    def test_told_ones(self):
        for company, place in companies():
            for book in (ACT, DOWN, ("act", MOST, 0)):
                made = asked_twice(self, put, company, book)
                self.assertEqual(made, with_part(company, place, book))
                self.assertIsNone(bookfault(made))
        self.assertEqual(put(("beside", (ACT, OPEN)), ("times", 2, DOWN)), ("beside", (ACT, ("times", 2, DOWN))))
        self.assertEqual(put(("many", 4, ("then", (OPEN, ACT))), NONE), ("many", 4, ("then", (NONE, ACT))))
        book = ("then", (ACT, ("many", 3, DOWN)))
        self.assertEqual(put(OPEN, book), book)

    def test_wherever_it_is_open(self):
        for book in chance_books(60, 161, deep=3):
            for place in places_of(book):
                self.assertEqual(put(with_part(book, place, OPEN), ACT), changed(book, place, ACT))

    def test_all_copies_have_it(self):
        self.assertEqual(gain_of(put(("many", COPIES, ("then", (ACT, OPEN))), ("act", 1, 3))), 5 * COPIES)

    def refused(self, company):
        for book in (ACT, NONE, ("many", COPIES, ACT)):
            with self.assertRaises(BadCompany):
                put(company, book)

    def test_no_companies(self):
        for thing in odd_things() + [()]:
            self.refused(thing)
        for thing in (
            # no open place, two of them
            ACT, NONE, ("times", 3, ACT), ("beside", (ACT, DOWN)), ("then", (OPEN, OPEN)),
            ("beside", (OPEN, ACT, OPEN)),
            ("then", (OPEN, ("times", 2, OPEN))), ("then", (("many", 0, OPEN), OPEN)),
            # only looks so
            "open", ["open"], ("Open",), ("open", ()), ("open", "open"), (OPEN,), (("open",),), [OPEN], {"open": 1},
            ("then", (["open"],)), ("then", ("open",)), ("beside", (ACT, "open")), ("act", OPEN, 2), ("act", 1, OPEN),
            ("times", OPEN, ACT), ("many", OPEN, OPEN), ("then", OPEN), ("beside", OPEN), ("times", 3, (OPEN,)),
            ("open", 1, 2), ("open", ACT), ("times", 2, "open"), (None,), ("then", ((("open",),),)), ("open ",),
            # would be no book
            ("then", [OPEN]), ["then", (OPEN,)], ("than", (OPEN,)), ("then", (OPEN,), ()), ("then", (OPEN, None)),
            ("then", (("act", -1, 2), OPEN)), ("then", (OPEN, ("act", 1, MOST + 1))), ("times", -1, OPEN),
            ("times", True, OPEN), ("many", COPIES + 1, OPEN), ("many", 2, ("times", COPIES, OPEN)),
            ("times", 3, OPEN, 1),
            ("times", None, OPEN), ("many", "2", OPEN), ("beside", (OPEN, ("then", []))), ("beside", (OPEN, {})),
            nested(DEEP, OPEN), nested(DEEP + 9, OPEN), ("then", (ACT,) * (BOOKS - 1) + (OPEN,)),
            ("then", (OPEN, ("many", 10 ** 8, ("times", 10 ** 8, ACT)))), ("then", (OPEN,) + (ACT,) * 900),
        ):
            self.refused(thing)

    def test_spoiled_companies(self):
        company = ("beside", (ACT, ("times", 2, ("then", (OPEN, DOWN)))))
        for bad in spoiled(company):
            opened = repr(bad).count(repr(OPEN))
            filled = eval(repr(bad).replace(repr(OPEN), repr(ACT)))
            if opened == 1 and bookfault(filled) is None:
                self.assertEqual(asked_twice(self, put, bad, ACT), filled)
            else:
                with self.assertRaises(BadCompany):
                    put(bad, ACT)

    def test_too_great_only_together(self):
        for company, book, place, why in (
            (nested(DEEP - 1, OPEN), ("then", (ACT,)), (0,) * DEEP, "deep"),
            (nested(6, OPEN), nested(6, ACT), (0,) * DEEP, "deep"),
            (("many", COPIES, OPEN), ("times", 2, ACT), (0,), "copies"),
            (("then", (ACT, ("times", 10 ** 8, OPEN))), ("beside", (ACT, ("many", 10 ** 8, ACT))), (1, 0, 1), "copies"),
            (("then", (ACT,) * 30 + (OPEN,)), ("then", (ACT,) * 28 + (NONE,)), (), "size"),
        ):
            self.assertIsNone(bookfault(book))
            self.assertIsNotNone(put(company, ACT))
            with self.assertRaises(BadBook) as caught:
                put(company, book)
            self.assertEqual((caught.exception.place, caught.exception.why), (place, why))
        self.assertEqual(put(nested(5, OPEN), nested(6, ACT)), nested(11, ACT))
        fits = put(("then", (ACT,) * 30 + (OPEN,)), ("then", (ACT,) * 28))
        self.assertIsNone(bookfault(fits))

    def test_no_company_comes_ahead_of_no_book(self):
        for thing in (None, ("act", -1, 2), ("then", [])):
            with self.assertRaises(BadCompany):
                put(ACT, thing)
            with self.assertRaises(BadBook):
                put(OPEN, thing)


class InCompany(unittest.TestCase):
    def test_a_book_needs_what_its_form_needs(self):
        chance = random.Random(162)
        tried = 0
        while tried < 250:
            company, book = chance_company(chance), chance_book(chance, 2, 3, (0, 1, 2, 3), 6)
            made = put(company, book)
            if form(made) == ((), 0, ()):
                continue
            instead = put(company, row_book(book))
            self.assertEqual(form(made), form(instead))
            self.assertEqual(least(made), least(instead))
            tried += 1

    def test_against_all_orders(self):
        chance = random.Random(163)
        for book in chance_books(80, 164, fewest=1, most=4, deep=2, greatest=6):
            for _ in range(4):
                company = chance_company(chance, 2)
                made = put(company, book)
                if act_count(made) <= 9:
                    self.assertEqual(least(made), plain_least(made))


class OneMoreAct(unittest.TestCase):
    def test_told_ones(self):
        for book, pair, beside, ahead, after in (
            (ACT, (0, 0), 2, 2, 2), (ACT, (5, 2), 2, 5, 2), (DOWN, (2, 5), 2, 2, 5), (NONE, (7, 1), 7, 7, 7),
            (("many", COPIES, DOWN), (0, 3), 3 * COPIES - 1, 3 * COPIES - 1, 3 * COPIES + 2),
            (("times", COPIES, ACT), (3 * COPIES, 0), 2, 3 * COPIES + 2, 2),
        ):
            self.assertEqual(asked_twice(self, least_beside, book, pair), beside, (book, pair))
            self.assertEqual(asked_twice(self, least_ahead, book, pair), ahead, (book, pair))
            self.assertEqual(asked_twice(self, least_after, book, pair), after, (book, pair))

    def look(self, book, pair, needs):
        act = ("act",) + pair
        self.assertEqual(asked_twice(self, least_beside, book, pair), needs(("beside", (book, act))), (book, pair))
        self.assertEqual(asked_twice(self, least_ahead, book, pair), needs(("then", (act, book))), (book, pair))
        self.assertEqual(asked_twice(self, least_after, book, pair), needs(("then", (book, act))), (book, pair))

    def test_against_all_orders(self):
        chance = random.Random(165)
        for book in chance_books(250, 166, most=7, greatest=6):
            for pair in (chance_act(chance, 9)[1:], chance_act(chance, 30)[1:]):
                self.look(book, pair, plain_least)

    def test_pairs_beyond_most(self):
        chance = random.Random(167)
        for book in chance_books(60, 168, most=6, greatest=6):
            for pair in ((5, 5 + 10 ** 40), (4 + 10 ** 40, 4), chance_act(chance, 10 ** 20)[1:]):
                self.look(book, pair, plain_least)

    def test_wide_deep_and_far_books(self):
        chance = random.Random(169)
        for book in wide_books() + far_books() + [nested(DEEP - 1, DOWN), nested(DEEP - 1, ACT, "beside")]:
            for most in (9, 10 ** 12, 10 ** 30):
                self.look(book, chance_act(chance, most)[1:], least)

    def test_turned_about(self):
        chance = random.Random(170)
        for book in chance_books(150, 171, deep=3):
            need, leave = chance_act(chance, 20)[1:]
            turned = turned_book(book)
            gain = rise(form(book)) - fall(form(book)) + leave - need
            self.assertEqual(least_beside(turned, (leave, need)), least_beside(book, (need, leave)) + gain)
            self.assertEqual(least_ahead(turned, (leave, need)), least_after(book, (need, leave)) + gain)
            self.assertEqual(least_after(turned, (leave, need)), least_ahead(book, (need, leave)) + gain)


if __name__ == "__main__":
    unittest.main()
