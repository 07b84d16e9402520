"""[33]: what is left at a standing, and what was gained up to it."""

import unittest

from journeys import Journey
from samples import asked_twice, odd_things
from worlds import ACT, NONE, books_in, chance_books, far_books, inner_books
from stintpurse.books import acts_in, bookfault, gain_of
from stintpurse.bounds import BOOKS, COPIES, DEEP
from stintpurse.errors import NoStanding
from stintpurse.formed import form, least
from stintpurse.going import part_rest, stretch
from stintpurse.rests import got, rest
from stintpurse.safety import greatest, lacks, reached, safe, safe_ways
from stintpurse.standings import begin, gone, is_ended, is_standing, standing_text, ways

DOWN = ("act", 5, 1)
TWO = ("then", (ACT, DOWN))


def depth(book):
    return 1 + max([depth(part) for part in inner_books(book)], default=0)


class Rests(unittest.TestCase):
    def test_of_each_kind(self):
        three = ("then", (TWO, ACT, DOWN))
        pair = ("beside", (TWO, ACT))
        for book, standing, told in (
            (ACT, 0, ACT), (ACT, 1, NONE),
            (three, (0, (0, 0)), three), (three, (0, (1, 0)), ("then", (("then", (DOWN,)), ACT, DOWN))),
            (three, (1, 0), ("then", (ACT, DOWN))), (three, (2, 0), ("then", (DOWN,))), (three, (3, None), NONE),
            (pair, ((0, 0), 0), pair), (pair, ((1, 0), 0), ("beside", (("then", (DOWN,)), ACT))),
            (pair, ((2, None), 0), ("beside", (NONE, ACT))), (pair, ((2, None), 1), NONE),
            (("times", 4, TWO), (0, (0, 0)), ("times", 4, TWO)),
            (("times", 4, TWO), (0, (1, 0)), ("then", (("then", (DOWN,)), ("times", 3, TWO)))),
            (("times", 4, TWO), (1, (0, 0)), ("then", (TWO, ("times", 2, TWO)))),
            (("times", 4, TWO), (3, (0, 0)), ("then", (TWO, ("times", 0, TWO)))),
            (("times", 4, TWO), (4, None), NONE), (("times", 0, TWO), (0, None), NONE),
            (("many", 4, TWO), ((4, (0, 0)),), ("many", 4, TWO)), (("many", 4, TWO), ((4, (2, None)),), NONE),
            (("many", 4, TWO), ((4, (1, 0)),), ("beside", (("many", 4, ("then", (DOWN,))),))),
            (("many", 4, TWO), ((1, (0, 0)), (2, (1, 0)), (1, (2, None))),
             ("beside", (("many", 1, TWO), ("many", 2, ("then", (DOWN,))), ("many", 1, NONE)))),
            (("many", 0, TWO), (), NONE), (("beside", ()), (), NONE), (NONE, (0, None), NONE),
            (("many", 3, NONE), ((3, (0, None)),), NONE), (("times", 3, ("beside", ())), (3, None), NONE),
        ):
            self.assertEqual(asked_twice(self, rest, book, standing), told)

    def test_books_without_acts_ahead(self):
        book = ("then", (NONE, TWO, NONE))
        self.assertEqual(rest(book, (1, (0, 0))), book)
        self.assertEqual(rest(book, (1, (1, 0))), ("then", (("then", (DOWN,)), NONE)))

    def test_part_by_part(self):
        for book in chance_books(200, 301, most=6):
            journey = Journey(book)
            for done in journey.states():
                standing = journey.standing(done)
                told = asked_twice(self, rest, book, standing)
                self.assertEqual(told, self.plain_rest(journey, done, book, ()), (book, standing))
                self.assertEqual(asked_twice(self, got, book, standing), journey.gain(done))
                self.assertEqual(got(book, standing) + gain_of(told), gain_of(book))
                self.assertEqual(acts_in(told), len(journey.end - done))

    def plain_rest(self, journey, done, book, way):
        """The sentences of [33], word by word, over the acts that are done."""
        standing = journey.standing(done, book, way)
        if journey.is_ended(done, way):
            return ("then", ())
        if not any(spot[:len(way)] == way for spot in done):
            return book
        if book[0] == "then":
            at = standing[0]
            return ("then", (self.plain_rest(journey, done, book[1][at], way + (at,)),) + book[1][at + 1:])
        if book[0] == "times":
            at = standing[0]
            first = self.plain_rest(journey, done, book[2], way + (at,))
            return ("then", (first, ("times", book[1] - at - 1, book[2])))
        if book[0] == "beside":
            parts = enumerate(book[1])
            return ("beside", tuple(self.plain_rest(journey, done, part, way + (at,)) for at, part in parts))
        copies = {}
        for copy in range(book[1]):
            copies.setdefault(journey.standing(done, book[2], way + (copy,)), copy)
        return ("beside", tuple(
            ("many", count, self.plain_rest(journey, done, book[2], way + (copies[inner],)))
            for count, inner in standing
        ))

    def test_far_copies_under_way(self):
        book = ("times", COPIES, TWO)
        standing = (COPIES // 2, (1, 0))
        self.assertEqual(rest(book, standing), ("then", (("then", (DOWN,)), ("times", COPIES // 2 - 1, TWO))))
        self.assertEqual(got(book, standing), 3 - COPIES // 2)
        crowd = ("many", COPIES, TWO)
        standing = ((COPIES - 7, (0, 0)), (4, (1, 0)), (3, (2, None)))
        left = ("beside", (("many", COPIES - 7, TWO), ("many", 4, ("then", (DOWN,))), ("many", 3, NONE)))
        self.assertEqual(rest(crowd, standing), left)
        self.assertEqual(got(crowd, standing), 4 * 3 - 3)
        for book in far_books():
            standing = begin(book)
            for _ in range(9):
                left = asked_twice(self, rest, book, standing)
                self.assertEqual(gain_of(left) + asked_twice(self, got, book, standing), gain_of(book))
                on = ways(book, standing)
                if not on:
                    break
                standing = gone(book, standing, on[-1])

    def test_refused(self):
        for book in (ACT, TWO, ("many", 3, TWO), NONE):
            for thing in odd_things() + [()]:
                if not is_standing(book, thing):
                    for function in (rest, got):
                        with self.assertRaises(NoStanding):
                            function(book, thing)


class Beyond(unittest.TestCase):
    def look(self, book):
        """All functions answer for a book beyond the bounds as they do for others."""
        self.assertIsNotNone(bookfault(book))
        standing = begin(book)
        purse = least(book)
        for _ in range(6):
            left = rest(book, standing)
            self.assertEqual(purse - lacks(book, standing, 0), purse - least(left))
            self.assertEqual(lacks(book, standing, 0), least(left))
            self.assertIs(safe(book, standing, purse), True)
            self.assertEqual(part_rest(book, standing, ()), left)
            self.assertTrue(standing_text(book, standing))
            if is_ended(book, standing):
                break
            told = stretch(book, standing, ())
            self.assertEqual(None if told is None else told[:2], (form(left)[0] or (None,))[0])
            far, most = reached(book, standing, purse)
            self.assertEqual(most, greatest(book, standing, purse))
            self.assertEqual(got(book, far) - got(book, standing), most - purse)
            way = safe_ways(book, standing, purse)[0]
            after = gone(book, standing, way)
            purse += got(book, after) - got(book, standing)
            standing = after

    def test_deeper_and_greater_ones(self):
        deep = TWO
        for k in range(DEEP - 2):
            deep = (("times", "many")[k % 2], 2, deep)
        wide = ("many", 10 ** 9, ("then", (ACT, DOWN, ("times", 5, TWO), ("beside", (ACT,) * 30), DOWN)))
        for book in (deep, wide):
            self.assertIsNone(bookfault(book))
            standing = begin(book)
            for turn in range(30):
                standing = gone(book, standing, ways(book, standing)[turn % len(ways(book, standing))])
            left = rest(book, standing)
            self.assertTrue(depth(left) > DEEP or books_in(left) > BOOKS)
            self.look(left)
            further = begin(left)
            for turn in range(10):
                further = gone(left, further, ways(left, further)[-1])
            self.look(rest(left, further))

    def test_copies_within_copies_are_not_told_again_and_again(self):
        book = TWO
        for _ in range(DEEP - 2):
            book = ("times", 3, book)
        standing = begin(book)
        for _ in range(4):
            self.look(("then", (book, ("beside", (ACT,) * 60))))
            standing = gone(book, standing, ways(book, standing)[0])
            book = rest(book, standing)
            standing = begin(book)


if __name__ == "__main__":
    unittest.main()
