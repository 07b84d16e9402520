"""[25]: ease, and which acts are tight."""

import unittest

from samples import asked_twice, odd_things
from worlds import ACT, NONE, chance_books, far_books, nested, plain_least, wide_books
from stintpurse.bounds import COPIES, DEEP, MOST
from stintpurse.books import part_at, places_of, turned_book, with_part
from stintpurse.ease import ease, tight
from stintpurse.errors import NoPlace
from stintpurse.formed import least

DOWN = ("act", 5, 2)
BOOK = ("then", (ACT, ("many", 0, ("then", (DOWN,))), ("times", 2, ("beside", (DOWN, ACT, NONE)))))


def act_places(book):
    return [place for place in places_of(book) if part_at(book, place)[0] == "act"]


def lifted(book, place, more):
    """The book with need and leave there so much greater."""
    _, need, leave = part_at(book, place)
    return with_part(book, place, ("act", need + more, leave + more))


def is_done(book, place):
    around = [part_at(book, place[:deep]) for deep in range(len(place))]
    return all(part[0] not in ("times", "many") or part[1] > 0 for part in around)


def turned_place(book, place):
    """Where the act at a place stands in the book turned about."""
    turned = []
    for number in place:
        turned.append(len(book[1]) - 1 - number if book[0] == "then" else number)
        book = book[2] if book[0] in ("times", "many") else book[1][number]
    return tuple(turned)


class Ease(unittest.TestCase):
    def test_told_ones(self):
        for book, place, told in (
            (ACT, (), 0),
            (("then", (ACT, ("act", 1, 1))), (1,), 4),
            (("then", (("act", 1, 1), ACT)), (0,), 1),
            (("beside", (("act", 1, 1), ACT)), (0,), 4),
            (("beside", (ACT, ("act", 5, 2))), (1,), 0),
            (("times", 3, ("then", (ACT, ("act", 3, 3)))), (0, 1), 2),
            (("many", 3, ("then", (ACT, ("act", 3, 3)))), (0, 1), 8),
            (("many", COPIES, ("then", (ACT, ("act", 3, 3)))), (0, 1), 3 * COPIES - 1),
            (("beside", (("many", COPIES, DOWN), ("act", 1, 1))), (1,), 3 * COPIES + 1),
            (("then", (("many", COPIES, DOWN), ("act", 1, 1))), (1,), 1),
            (("times", 0, ACT), (0,), None),
            (("many", COPIES, ("times", 0, ("then", (ACT,)))), (0, 0, 0), None),
            (("times", 0, ("many", COPIES, ACT)), (0, 0), None),
            (BOOK, (1, 0, 0), None),
        ):
            self.assertEqual(asked_twice(self, ease, book, place), told, (book, place))

    def test_against_all_orders(self):
        some = 0
        for book in chance_books(200, 151, fewest=2, most=7, greatest=6):
            purse = plain_least(book)
            for place in act_places(book):
                told = asked_twice(self, ease, book, place)
                self.assertEqual(told is None, not is_done(book, place))
                if told is not None:
                    some += told > 0
                    self.assertEqual(plain_least(lifted(book, place, told)), purse, (book, place))
                    self.assertGreater(plain_least(lifted(book, place, told + 1)), purse, (book, place))
        self.assertGreater(some, 100)

    def test_against_the_least_purse(self):
        greatest = 0
        books = chance_books(150, 152, deep=4, copies=(0, 1, 2, 5, 10 ** 5)) + far_books() + wide_books()
        for book in books:
            for place in act_places(book):
                told = ease(book, place)
                self.assertEqual(told is None, not is_done(book, place))
                if told is not None:
                    greatest = max(greatest, told)
                    self.assertGreaterEqual(told, 0)
                    self.assertEqual(least(lifted(book, place, told)), least(book), (book, place))
                    self.assertGreater(least(lifted(book, place, told + 1)), least(book), (book, place))
        self.assertGreater(greatest, MOST)

    def test_beyond_most(self):
        book = ("then", (("act", 0, MOST), ("act", MOST, MOST)))
        self.assertEqual(ease(book, (1,)), 0)
        book = ("then", (("act", 0, MOST), ("act", 0, MOST), ("act", MOST - 1, MOST - 1)))
        self.assertEqual(ease(book, (2,)), MOST + 1)

    def test_turned_about(self):
        for book in chance_books(80, 153, deep=3) + far_books():
            turned = turned_book(book)
            for place in act_places(book):
                self.assertEqual(ease(turned, turned_place(book, place)), ease(book, place), (book, place))

    def test_no_places_of_acts(self):
        for thing in odd_things() + [
            (), (1,), (1, 0), (2,), (2, 0), (2, 0, 2), (3,), (-1,), (0, 0), (2, 1), (False,), (2, 0, True), [0], [],
            (2, False, 1), (None,), ("0",), 0, None, (2, 0, 0, 0), (2, 0, -1), (10 ** 59,), {}, ([0],), (2, 0, 3),
        ]:
            if thing == (0,) and thing[0].__class__ is int:
                continue
            with self.assertRaises(NoPlace) as caught:
                ease(BOOK, thing)
            self.assertIs(caught.exception.place, thing)
        for book in (NONE, ("beside", ()), ("times", 0, NONE)):
            with self.assertRaises(NoPlace):
                ease(book, ())
        with self.assertRaises(NoPlace):
            ease(ACT, (0,))

    def test_deep_ones(self):
        book = nested(DEEP - 1, ACT)
        self.assertEqual(ease(book, (0,) * (DEEP - 1)), 0)


class Tight(unittest.TestCase):
    def test_told_ones(self):
        for book, told in (
            (ACT, ((),)),
            (NONE, ()),
            (("act", 0, 0), ((),)),
            (("then", (ACT, ("act", 1, 1), DOWN)), ((0,), (2,))),
            (("beside", (("act", 1, 1), ACT)), ((1,),)),
            (("times", 0, ACT), ()),
            (("then", (("times", 0, ACT), ("many", COPIES, DOWN), ("times", 2, ACT))), ((1, 0), (2, 0))),
        ):
            self.assertEqual(asked_twice(self, tight, book), told, book)

    def test_all_whose_ease_is_nought(self):
        for book in chance_books(200, 154, deep=4, copies=(0, 1, 2, 5, 10 ** 5)) + far_books() + wide_books():
            told = asked_twice(self, tight, book)
            self.assertEqual(told, tuple(place for place in act_places(book) if ease(book, place) == 0), book)
            self.assertEqual(list(told), sorted(told))


if __name__ == "__main__":
    unittest.main()
