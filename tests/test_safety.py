"""[34], [37], [3] (e): safe standings, safe ways, and how far stretches lead."""

import random
import unittest

from journeys import Journey
from samples import asked_twice, odd_things
from worlds import ACT, COPIED, NONE, chance_books, far_books
from stintpurse.books import turned_book
from stintpurse.bounds import COPIES
from stintpurse.errors import NoPurse, NoStanding
from stintpurse.formed import least
from stintpurse.going import part_rest, stretch
from stintpurse.rests import got, rest
from stintpurse.safety import greatest, lacks, reached, safe, safe_ways
from stintpurse.standings import act_at, begin, gone, is_ended, is_standing, ways

FUNCTIONS = (safe, lacks, safe_ways, greatest, reached)
TWO = ("then", (ACT, ("act", 5, 1)))


def purses_about(need):
    return [purse for purse in (0, need - 1, need, need + 1, need + 7, 10 ** 40) if purse >= 0]


def standings_of(journey):
    """{standing: one of its states}."""
    return {journey.standing(done): done for done in journey.states()}


class Safe(unittest.TestCase):
    def test_against_going_all_ways(self):
        for book in chance_books(200, 401, most=6):
            journey = Journey(book)
            for standing, done in standings_of(journey).items():
                need = journey.rest_least(done)
                for purse in purses_about(need):
                    self.assertIs(asked_twice(self, safe, book, standing, purse), purse >= need)
                    self.assertEqual(asked_twice(self, lacks, book, standing, purse), max(0, need - purse))

    def test_safe_ways_against_going_all_ways(self):
        for book in chance_books(200, 402, most=6):
            journey = Journey(book)
            for standing, done in standings_of(journey).items():
                behind = journey.ways(done)
                for purse in purses_about(journey.rest_least(done)):
                    told = asked_twice(self, safe_ways, book, standing, purse)
                    wanted = [way for way in behind if self.is_fine(journey, done, behind[way], purse)]
                    self.assertEqual(told, tuple(sorted(wanted)), (book, standing, purse))
                    if safe(book, standing, purse) and not is_ended(book, standing):
                        self.assertGreater(len(told), 0)

    def is_fine(self, journey, done, after, purse):
        need, leave = journey.pairs[next(iter(after - done))]
        return purse >= need and purse - need + leave >= journey.rest_least(after)

    def test_purses(self):
        for function in FUNCTIONS:
            for thing in odd_things() + [-1, (), -(10 ** 59)]:
                if thing.__class__ is int and thing >= 0:
                    function(ACT, 0, thing)
                    continue
                for book in (ACT, NONE, TWO):
                    with self.assertRaises(NoPurse) as caught:
                        function(book, begin(book), thing)
                    self.assertIs(caught.exception.purse, thing)

    def test_standings_first(self):
        for function in FUNCTIONS:
            for book in (ACT, TWO, ("many", 2, ACT)):
                for thing in odd_things():
                    if is_standing(book, thing):
                        continue
                    for purse in (0, -1, None, [], thing):
                        with self.assertRaises(NoStanding):
                            function(book, thing, purse)

    def test_far_copies(self):
        chance = random.Random(403)
        for book in far_books():
            standing = begin(book)
            purse = least(book)
            for _ in range(9):
                need = least(rest(book, standing))
                self.assertIs(asked_twice(self, safe, book, standing, purse), True)
                self.assertEqual(lacks(book, standing, max(0, need - 3)), min(3, need))
                on = asked_twice(self, safe_ways, book, standing, purse)
                self.assertEqual(len(on) == 0, is_ended(book, standing))
                self.assertLessEqual(set(on), set(ways(book, standing)))
                if not on:
                    break
                way = chance.choice(on)
                need, leave = act_at(book, way)
                standing = gone(book, standing, way)
                purse += leave - need
        crowd = ("many", COPIES, ("act", 5, 2))
        self.assertEqual(lacks(crowd, ((COPIES - 4, 0), (4, 1)), 9), 3 * (COPIES - 4) + 2 - 9)

    def test_turned_about(self):
        """What is done up to a standing is, turned about, what is left at that standing of the book turned about."""
        for book in chance_books(150, 408, most=6):
            journey = Journey(book)
            turned = Journey(turned_book(book))
            needs = journey.needs(journey.start)
            for done in journey.states():
                standing = turned.standing(frozenset(self.turned_spot(book, spot) for spot in journey.end - done))
                wanted = needs[done] + journey.gain(done)
                self.assertEqual(lacks(turned.book, standing, 0), wanted, (book, standing))
                self.assertEqual(got(turned.book, standing), journey.gain(done) - journey.gain(journey.end))

    def turned_spot(self, book, spot):
        """Where an act stands in the book turned about."""
        if book[0] == "act":
            return ()
        many = book[1] if book[0] in COPIED else len(book[1])
        number = many - 1 - spot[0] if book[0] in ("then", "times") else spot[0]
        return (number,) + self.turned_spot(book[2] if book[0] in COPIED else book[1][spot[0]], spot[1:])

    def test_a_way_may_be_borne_and_unsafe(self):
        book = ("beside", (("act", 5, 0), ("act", 3, 6)))
        self.assertEqual(safe_ways(book, (0, 0), 5), ((1,),))
        self.assertEqual(safe_ways(book, (0, 0), 8), ((0,), (1,)))
        self.assertEqual(safe_ways(book, (0, 0), 2), ())
        self.assertEqual(lacks(book, (1, 0), 0), 3)


class Greatest(unittest.TestCase):
    def test_against_going_all_ways(self):
        for book in chance_books(200, 404, most=6):
            journey = Journey(book)
            for standing, done in standings_of(journey).items():
                for purse in purses_about(journey.rest_least(done)) + [1, 2, 3, 5]:
                    told = asked_twice(self, greatest, book, standing, purse)
                    self.assertEqual(told, journey.greatest(done, purse), (book, standing, purse))

    def test_reached(self):
        for book in chance_books(150, 405, most=6):
            journey = Journey(book)
            for standing, done in standings_of(journey).items():
                needs = journey.needs(done)
                for purse in (0, 2, 5, journey.rest_least(done), 10 ** 40):
                    far, most = asked_twice(self, reached, book, standing, purse)
                    self.assertEqual(most, journey.greatest(done, purse))
                    led = [after for after, need in needs.items() if need <= purse and journey.standing(after) == far]
                    self.assertGreater(len(led), 0, (book, standing, purse, far))
                    self.assertEqual(got(book, far) - got(book, standing), most - purse)
                    for place in journey.parts(led[0]):
                        told = stretch(book, far, place)
                        self.assertTrue(told is None or told[0] > most, (book, far, place))

    def test_stretches_in_whatever_turn_end_with_one_purse(self):
        chance = random.Random(406)
        for book in chance_books(250, 407, most=9, deep=4):
            journey = Journey(book)
            first = least(book)
            for purse in (0, 3, first, first + 2):
                ends = {self.stretched(chance, journey, purse) for _ in range(4)}
                self.assertEqual(ends, {greatest(book, begin(book), purse)}, (book, purse))

    def stretched(self, chance, journey, purse):
        """The purse behind stretches of parts by chance, until it bears none; from what is safe nothing unsafe comes."""
        book = journey.book
        standing = begin(book)
        by_standing = standings_of(journey)
        was_safe = safe(book, standing, purse)
        while True:
            places = list(journey.parts(by_standing[standing]))
            told = [one for one in (stretch(book, standing, place) for place in places) if one and one[0] <= purse]
            if not told:
                return purse
            need, leave, standing = chance.choice(told)
            purse += leave - need
            self.assertTrue(safe(book, standing, purse) or not was_safe, (book, standing, purse))

    def test_far_copies(self):
        crowd = ("many", COPIES, ACT)
        self.assertEqual(greatest(crowd, begin(crowd), 1), 1)
        self.assertEqual(reached(crowd, begin(crowd), 1), (begin(crowd), 1))
        self.assertEqual(reached(crowd, begin(crowd), 2), (((COPIES, 1),), 2 + 3 * COPIES))
        line = ("times", COPIES, TWO)
        self.assertEqual(reached(line, begin(line), 1), ((0, (0, 0)), 1))
        self.assertEqual(reached(line, begin(line), 4), ((0, (1, 0)), 7))
        gains = ("times", COPIES, ("then", (("act", 3, 0), ("act", 1, 6))))
        # it comes to the last act of the last copy, through all of them
        self.assertEqual(reached(gains, begin(gains), 4), ((COPIES, None), 4 + 2 * COPIES))
        self.assertEqual(reached(gains, (7, (1, 0)), 1), ((COPIES, None), 1 + 5 + 2 * (COPIES - 8)))
        for book in far_books():
            standing = begin(book)
            for purse in (0, 5, least(book), 10 ** 40):
                far, most = asked_twice(self, reached, book, standing, purse)
                self.assertEqual(most, asked_twice(self, greatest, book, standing, purse))
                self.assertIs(is_standing(book, far), True)
                self.assertEqual(got(book, far), most - purse)
                self.assertEqual(greatest(book, far, most), most)
                self.assertIs(safe(book, far, most), safe(book, standing, purse))
                told = stretch(book, far, ())
                self.assertTrue(told is None or told[0] > most)

    def test_nothing_greater(self):
        self.assertEqual(greatest(NONE, (0, None), 7), 7)
        self.assertEqual(greatest(("act", 5, 5), 0, 7), 7)
        self.assertEqual(reached(("act", 5, 2), 0, 7), (0, 7))
        self.assertEqual(greatest(ACT, 1, 7), 7)
        self.assertEqual(part_rest(ACT, 1, ()), NONE)


if __name__ == "__main__":
    unittest.main()
