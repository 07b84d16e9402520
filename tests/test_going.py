"""[35], [36], [3] (e): parts under way, and the stretch that each of them has next."""

import random
import unittest

from journeys import Journey
from samples import asked_twice, odd_things
from worlds import ACT, NONE, chance_books, far_books
from stintpurse.bounds import COPIES
from stintpurse.errors import NoPart, NoStanding
from stintpurse.formed import form
from stintpurse.going import part_rest, stretch
from stintpurse.rests import got, rest
from stintpurse.safety import lacks, reached, safe
from stintpurse.standings import begin, gone, is_standing, ways

DOWN = ("act", 5, 1)
TWO = ("then", (ACT, DOWN))
# first 3 are wanted for 2 more, then 7 for 3 more; then 4 of these are lost
CLIMB = ("then", (("act", 3, 0), ("act", 0, 5), ("act", 7, 7), ("act", 4, 7), ("act", 5, 1)))


def standings_of(journey):
    return {journey.standing(done): done for done in journey.states()}


class Parts(unittest.TestCase):
    def test_of_each_part_under_way(self):
        for book in chance_books(200, 501, most=6):
            journey = Journey(book)
            for standing, done in standings_of(journey).items():
                for place, (part, way) in journey.parts(done).items():
                    told = asked_twice(self, part_rest, book, standing, place)
                    self.assertEqual(told, rest(part, journey.standing(done, part, way)))

    def test_no_other_ones(self):
        places = [()] + [(a,) for a in range(4)] + [(a, b) for a in range(4) for b in range(4)]
        for book in chance_books(150, 502, most=5, deep=2):
            journey = Journey(book)
            for standing, done in standings_of(journey).items():
                there = journey.parts(done)
                for place in places + [place + (0,) for place in there] + [place + (1,) for place in there]:
                    if place not in there:
                        self.refuse(book, standing, place)

    def refuse(self, book, standing, place):
        for function in (part_rest, stretch):
            with self.assertRaises(NoPart) as caught:
                function(book, standing, place)
            self.assertIs(caught.exception.place, place)

    def test_of_each_kind(self):
        book = ("beside", (ACT, ("times", 3, TWO), ("then", (ACT, TWO)), ("many", 3, TWO)))
        standing = (1, (1, (1, 0)), (1, (0, 0)), ((2, (1, 0)), (1, (2, None))))
        for place, told in (
            ((0,), NONE), ((1,), ("then", (("then", (DOWN,)), ("times", 1, TWO)))), ((1, 0), ("then", (DOWN,))),
            ((1, 0, 1), DOWN), ((2,), ("then", (TWO,))), ((2, 1), TWO), ((2, 1, 0), ACT),
            ((3, 0), ("then", (DOWN,))), ((3, 0, 1), DOWN), ((3, 1), NONE), ((), rest(book, standing)),
        ):
            self.assertEqual(part_rest(book, standing, place), told, place)
        for place in ((1, 1), (1, 0, 0), (2, 0), (2, 2), (2, 1, 1), (3, 2), (3, 1, 1), (3, 1, 0), (0, 0), (4,), (-1,)):
            self.refuse(book, standing, place)

    def test_none_in_what_is_ended(self):
        for book, end in ((TWO, (2, None)), (("times", 2, ACT), (2, None)), (("times", 0, ACT), (0, None)), (NONE, (0, None))):
            self.assertEqual(part_rest(book, end, ()), NONE)
            for place in ((0,), (1,), (2,)):
                self.refuse(book, end, place)
        self.refuse(("many", 0, ACT), (), (0,))
        self.refuse(ACT, 0, (0,))
        self.assertEqual(part_rest(("beside", (ACT, NONE)), (1, (0, None)), (1,)), NONE)
        self.assertIsNone(stretch(("beside", (ACT, NONE)), (1, (0, None)), (1,)))
        self.assertIsNone(stretch(("many", 2, ACT), ((2, 1),), (0,)))

    def test_anything(self):
        for book in (ACT, TWO, ("beside", (ACT, TWO)), ("times", 2, TWO), ("many", 2, TWO)):
            there = [repr(place) for place in Journey(book).parts(frozenset())]
            more = [(True,), (False,), [0], [], (0, False), ("0",), ((0,),), (None,), (0.0,), (-1,), (10 ** 59,)]
            for thing in odd_things() + more:
                if repr(thing) not in there:
                    self.refuse(book, begin(book), thing)
                for standing in odd_things():
                    if not is_standing(book, standing):
                        for function in (part_rest, stretch):
                            with self.assertRaises(NoStanding):
                                function(book, standing, thing)


class Stretches(unittest.TestCase):
    def look(self, journey):
        """All stretches of all parts against going all ways of the part alone."""
        book = journey.book
        for standing, done in standings_of(journey).items():
            for place, (part, way) in journey.parts(done).items():
                told = asked_twice(self, stretch, book, standing, place)
                plain = journey.stretch(done, way)
                if plain is None:
                    self.assertIsNone(told, (book, standing, place))
                    continue
                self.assertEqual(told[:2], plain[:2], (book, standing, place))
                self.assertEqual(told[:2], form(part_rest(book, standing, place))[0][0])
                self.assertIn(told[2], [journey.standing(state) for state in plain[2]], (book, standing, place))
                for purse in (told[0], told[0] + 2, told[0] + 9):
                    lack = lacks(book, standing, purse)
                    self.assertLessEqual(lacks(book, told[2], purse + told[1] - told[0]), lack)

    def test_against_going_all_ways(self):
        for book in chance_books(250, 503, most=6):
            self.look(Journey(book))

    def test_copies_one_behind_another(self):
        chance = random.Random(504)
        for inner in chance_books(60, 505, fewest=1, most=4, deep=2, widest=4):
            book = ("times", chance.randint(2, 12 // len(Journey(inner).end)), inner)
            if len(Journey(book).states()) <= 40:
                self.look(Journey(book))

    def test_longer_rows(self):
        chance = random.Random(506)
        for _ in range(40):
            rows = [tuple(("act", chance.randint(0, 9), chance.randint(0, 9)) for _ in range(4)) for _ in range(2)]
            self.look(Journey(("times", 3, ("then", rows[0]))))
            self.look(Journey(("then", (("times", 2, ("then", rows[0])), ("then", rows[1])))))

    def test_into_copies_that_gain_nothing_or_lose(self):
        """The next copy is gone into, but not through: what stands behind its highest place wants much more."""
        for last in (0, 1):
            copy = ("then", (("act", 0, 3), ("act", 50, 48), ("act", 1, 0), ("act", last, 0)))
            for k in (2, 3, 4, COPIES):
                book = ("times", k, copy)
                self.assertEqual(stretch(book, (0, (2, 0)), ()), (1 + last, 3, (1, (1, 0))))
                self.assertIsNone(stretch(book, (k - 1, (2, 0)), ()))
            for k in (2, 3):
                self.look(Journey(("times", k, copy)))

    def test_one_that_is_told(self):
        book = ("beside", (CLIMB, ("many", 2, ("act", 4, 5))))
        standing = begin(book)
        self.assertEqual(stretch(book, standing, (0,)), (3, 5, ((2, 0), ((2, 0),))))
        self.assertEqual(stretch(book, standing, ()), (3, 10, ((4, 0), ((2, 1),))))
        self.assertEqual(stretch(book, standing, (1,)), (4, 6, ((0, 0), ((2, 1),))))
        self.assertEqual(stretch(book, standing, (1, 0)), (4, 5, ((0, 0), ((1, 0), (1, 1)))))
        self.assertIsNone(stretch(book, ((4, 0), ((2, 1),)), ()))

    def test_far_copies(self):
        self.assertEqual(stretch(("many", COPIES, ACT), ((COPIES, 0),), ()), (2, 2 + 3 * COPIES, ((COPIES, 1),)))
        self.assertEqual(
            stretch(("many", COPIES, ACT), ((COPIES, 0),), (0,)), (2, 5, ((COPIES - 1, 0), (1, 1)))
        )
        line = ("times", COPIES, CLIMB)
        self.assertEqual(stretch(line, begin(line), (0,)), (3, 5, (0, (2, 0))))
        self.assertEqual(stretch(line, begin(line), ()), (3, 5, (0, (2, 0))))
        # the second up of the first copy goes on through all of them
        self.assertEqual(stretch(line, (0, (2, 0)), ()), (7, 7 + 3 + COPIES - 1, (COPIES - 1, (4, 0))))
        self.assertEqual(stretch(line, (5, (2, 0)), (0,)), (7, 10, (5, (4, 0))))
        self.assertEqual(stretch(line, (COPIES - 1, (2, 0)), ()), (7, 10, (COPIES - 1, (4, 0))))
        self.assertIsNone(stretch(line, (COPIES - 1, (4, 0)), ()))

    def test_far_copies_as_few_ones(self):
        """What a stretch does with few copies it does with many, but that more of them go along."""
        for inner in chance_books(150, 507, fewest=1, most=4, deep=2):
            for word in ("times", "many"):
                few = stretch((word, 5, inner), begin((word, 5, inner)), ())
                far = stretch((word, COPIES, inner), begin((word, COPIES, inner)), ())
                if few is None:
                    self.assertIsNone(far)
                    continue
                self.assertEqual(few[0], far[0])
                if word == "many":
                    self.assertEqual(far[1] - far[0], (few[1] - few[0]) // 5 * COPIES)
                    self.assertEqual([run[1] for run in few[2]], [run[1] for run in far[2]])
                else:
                    ahead = few[2][0] - far[2][0] if few[2][0] < 2 else few[2][0] - far[2][0] + COPIES - 5
                    self.assertEqual(ahead, 0)
                    self.assertEqual(few[2][1], far[2][1])
                self.assertEqual(got((word, COPIES, inner), far[2]), far[1] - far[0])

    def test_stretches_of_far_books(self):
        chance = random.Random(508)
        for book in far_books():
            standing = begin(book)
            for _ in range(6):
                told = asked_twice(self, stretch, book, standing, ())
                left = form(rest(book, standing))
                self.assertEqual(None if told is None else told[:2], left[0][0] if left[0] else None)
                if told is not None:
                    self.assertIs(is_standing(book, told[2]), True)
                    self.assertEqual(got(book, told[2]) - got(book, standing), told[1] - told[0])
                    # what is left behind the first up has the ups behind it
                    self.assertEqual(form(rest(book, told[2]))[0], left[0][1:])
                    self.assertIs(safe(book, told[2], 10 ** 40 + told[1] - told[0]), True)
                    if told[0] == 2:
                        self.assertEqual(reached(book, standing, 1), (standing, 1))
                on = ways(book, standing)
                if not on:
                    break
                standing = gone(book, standing, chance.choice(on))


if __name__ == "__main__":
    unittest.main()
