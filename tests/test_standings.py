"""[31], [32], [43]: standings, the ways on, and their texts."""

import random
import unittest

from journeys import Journey, plain_text
from samples import asked_twice, odd_things, spoiled
from worlds import ACT, NONE, chance_books, far_books, inner_books, nested
from stintpurse.books import acts_in
from stintpurse.bounds import COPIES, DEEP
from stintpurse.errors import NoStanding, NoWay
from stintpurse.rests import rest
from stintpurse.standings import act_at, begin, gone, is_ended, is_standing, standing_text, ways

TWO = ("then", (ACT, ("act", 1, 0)))
EMPTY = ("beside", (NONE, ("times", 0, ACT)))
MANY = ("many", 3, TWO)
# what is no place, way, standing or number anywhere
NO_WAYS = ((True,), (False,), [0], [], {}, None, 0, "0", (0.5,), ("0",), (-1,), (None,), ((0,),), (10 ** 59,), (0, []))


def journeys(count, seed, most=6):
    return [Journey(book) for book in chance_books(count, seed, most=most)]


class Begins(unittest.TestCase):
    def test_of_each_kind(self):
        for book, told in (
            (ACT, 0), (NONE, (0, None)), (TWO, (0, 0)), (("beside", ()), ()), (("beside", (ACT, NONE)), (0, (0, None))),
            (("times", 3, ACT), (0, 0)), (("times", 0, ACT), (0, None)), (("many", 3, TWO), ((3, (0, 0)),)),
            (("many", 0, ACT), ()), (("many", 2, NONE), ((2, (0, None)),)),
        ):
            self.assertEqual(asked_twice(self, begin, book), told)

    def test_the_two_that_are_told(self):
        self.assertEqual(begin(("then", (NONE, ("act", 1, 2)))), (1, 0))
        for k in (0, 1, 5, COPIES):
            self.assertEqual(begin(("times", k, NONE)), (k, None))
            self.assertEqual(begin(("times", k, EMPTY)), (k, None))
            self.assertIs(is_ended(("times", k, NONE), (k, None)), True)

    def test_books_without_acts_within_others(self):
        self.assertEqual(begin(("then", (EMPTY, NONE, TWO, NONE))), (2, (0, 0)))
        self.assertEqual(begin(("then", (EMPTY, ("many", 0, ACT), ("times", 4, NONE)))), (3, None))
        self.assertEqual(begin(("times", 2, ("then", (NONE, ACT)))), (0, (1, 0)))
        self.assertEqual(begin(("many", 2, ("then", (NONE, ("times", 2, ACT))))), ((2, (1, (0, 0))),))

    def test_against_the_acts_that_are_done(self):
        for journey in journeys(300, 201):
            told = asked_twice(self, begin, journey.book)
            self.assertEqual(told, journey.standing(journey.start))
            self.assertIs(is_standing(journey.book, told), True)

    def test_far_ones(self):
        for book in far_books():
            told = asked_twice(self, begin, book)
            self.assertIs(asked_twice(self, is_standing, book, told), True)
            self.assertIs(asked_twice(self, is_ended, book, told), acts_in(book) == 0)


class Standings(unittest.TestCase):
    def test_all_standings_and_nothing_else(self):
        no = 0
        for journey in journeys(150, 202, most=5):
            standings = [journey.standing(done) for done in journey.states()]
            texts = {repr(standing) for standing in standings}
            for standing in standings:
                self.assertIs(asked_twice(self, is_standing, journey.book, standing), True)
                for bad in spoiled(standing):
                    fine = repr(bad) in texts
                    self.assertIs(is_standing(journey.book, bad), fine, (journey.book, bad))
                    no += not fine
        self.assertGreater(no, 10000)

    def test_anything(self):
        books = (NONE, TWO, EMPTY, ("times", 2, ACT), MANY, ("many", 0, ACT), ("beside", (ACT, ACT)))
        for book in books:
            told = {repr(Journey(book).standing(done)) for done in Journey(book).states()}
            for thing in odd_things() + [()]:
                self.assertIs(asked_twice(self, is_standing, book, thing), repr(thing) in told, (book, thing))
        for thing in odd_things():
            self.assertIs(is_standing(ACT, thing), repr(thing) in ("0", "1"))

    def test_acts(self):
        for thing, fine in ((0, True), (1, True), (2, False), (-1, False), (False, False), (True, False), ((), False)):
            self.assertIs(is_standing(ACT, thing), fine)

    def test_turns(self):
        for thing, fine in (
            ((0, 0), True), ((1, 0), True), ((2, None), True), ((2, 0), False), ((0, 1), False), ((1, 1), False),
            ((0, None), False), ((1, None), False), ((3, None), False), ((-1, 0), False), ((True, 0), False),
            ((False, 0), False), ([0, 0], False), ((0, False), False), ((0,), False), ((0, 0, 0), False),
            ({0: 0}, False), ("0:0", False), (None, False), ((None, None), False), ((2, ()), False),
        ):
            self.assertIs(is_standing(TWO, thing), fine, thing)
            self.assertIs(is_standing(("times", 2, ACT), thing), fine, thing)

    def test_a_book_that_is_ended_is_not_under_way(self):
        book = ("then", (NONE, TWO, EMPTY))
        for thing, fine in (
            ((0, (0, None)), False), ((1, (0, 0)), True), ((1, (2, None)), False), ((3, None), True),
            ((2, begin(EMPTY)), False), ((2, None), False),
        ):
            self.assertIs(is_standing(book, thing), fine, thing)
        for k in (1, 2, COPIES):
            self.assertIs(is_standing(("times", k, NONE), (0, (0, None))), False)
            self.assertIs(is_standing(("times", k, NONE), (k, None)), True)
        self.assertIs(is_standing(("times", 0, ACT), (0, None)), True)
        self.assertIs(is_standing(("times", 0, ACT), (0, 0)), False)

    def test_runs(self):
        first, second, end = (0, 0), (1, 0), (2, None)
        for thing, fine in (
            (((3, first),), True), (((3, end),), True), (((1, first), (2, end)), True),
            (((1, first), (1, second), (1, end)), True), (((2, first),), False), (((4, first),), False),
            (((2, first), (1, first)), False), (((1, first), (2, first)), False), (((2, end), (1, first)), False),
            (((1, second), (1, first), (1, end)), False), (((0, first), (3, end)), False), (((-1, first), (4, end)), False),
            (((1, first), (3, end)), False), ((), False), (((3, first), ()), False), (((True, first), (2, end)), False),
            (([3, first],), False), ([(3, first)], False), (((3, [0, 0]),), False), (((3, (0, 1)),), False),
            (({3: first},), False), (((3,),), False), (((3, first, first),), False), ((3, first), False),
            ((("3", first),), False),
        ):
            self.assertIs(is_standing(MANY, thing), fine, thing)
        self.assertIs(is_standing(("many", 0, TWO), ()), True)
        self.assertIs(is_standing(("many", 0, TWO), ((0, first),)), False)
        self.assertIs(is_standing(("many", 2, NONE), ((2, (0, None)),)), True)

    def test_runs_by_texts_of_counts_of_one_figure_and_of_two(self):
        book = ("many", 3, ("many", 12, ACT))
        nine = ((9, 0), (3, 1))
        ten = ((10, 0), (2, 1))
        # as a text 10x0 comes ahead of 9x0, as a number it doesn't
        self.assertIs(is_standing(book, ((1, ten), (2, nine))), True)
        self.assertIs(is_standing(book, ((2, nine), (1, ten))), False)
        copies = ("many", 2, ("times", 12, ACT))
        self.assertIs(is_standing(copies, ((1, (10, 0)), (1, (9, 0)))), True)
        self.assertIs(is_standing(copies, ((1, (9, 0)), (1, (10, 0)))), False)
        self.assertIs(is_standing(copies, ((1, (1, 0)), (1, (10, 0)))), False)
        self.assertIs(is_standing(copies, ((1, (10, 0)), (1, (1, 0)))), True)

    def test_ended(self):
        for journey in journeys(150, 203):
            for done in journey.states():
                told = asked_twice(self, is_ended, journey.book, journey.standing(done))
                self.assertIs(told, done == journey.end)

    def test_refused(self):
        for book in (ACT, TWO, MANY, NONE):
            for thing in odd_things() + [(), 2, (0, True)]:
                if is_standing(book, thing):
                    continue
                for function, more in (
                    (is_ended, ()), (ways, ()), (standing_text, ()), (gone, ((),)), (gone, (thing,)), (gone, ("x",)),
                ):
                    with self.assertRaises(NoStanding):
                        function(book, thing, *more)


class Ways(unittest.TestCase):
    def test_against_the_acts_that_are_done(self):
        for journey in journeys(300, 204):
            for done in journey.states():
                standing = journey.standing(done)
                behind = journey.ways(done)
                self.assertEqual(asked_twice(self, ways, journey.book, standing), tuple(sorted(behind)))
                for way, after in behind.items():
                    told = asked_twice(self, gone, journey.book, standing, way)
                    self.assertEqual(told, journey.standing(after), (journey.book, standing, way))
                    self.assertIs(is_standing(journey.book, told), True)

    def test_the_act_of_a_way(self):
        for journey in journeys(150, 205):
            for done in journey.states():
                for spot in journey.free(done):
                    way = journey.way(done, spot)
                    self.assertEqual(asked_twice(self, act_at, journey.book, way), journey.pairs[spot])
                    self.assertEqual(act_at(journey.book, spot), journey.pairs[spot])

    def test_runs_that_come_to_stand_alike_join(self):
        standing = begin(MANY)
        for way, told in (
            ((0, 0), ((2, (0, 0)), (1, (1, 0)))), ((0, 0), ((1, (0, 0)), (2, (1, 0)))),
            ((1, 1), ((1, (0, 0)), (1, (1, 0)), (1, (2, None)))), ((0, 0), ((2, (1, 0)), (1, (2, None)))),
            ((0, 1), ((1, (1, 0)), (2, (2, None)))), ((0, 1), ((3, (2, None)),)),
        ):
            standing = gone(MANY, standing, way)
            self.assertEqual(standing, told)
        self.assertEqual(ways(MANY, standing), ())

    def test_texts_turn_about_with_more_figures(self):
        book = ("many", 2, ("times", 12, ACT))
        standing = ((1, (8, 0)), (1, (9, 0)))
        self.assertEqual(gone(book, standing, (1, 9)), ((1, (10, 0)), (1, (8, 0))))

    def test_no_way(self):
        for book in (ACT, TWO, MANY, NONE, ("times", 2, ACT), ("beside", (ACT, TWO))):
            for way in NO_WAYS + tuple(odd_things()) + ((), (0,), (1,), (2,), (0, 1), (1, 1), (0, 0, 0)):
                standing = begin(book)
                if repr(way) in [repr(one) for one in ways(book, standing)]:
                    continue
                with self.assertRaises(NoWay) as caught:
                    gone(book, standing, way)
                self.assertIs(caught.exception.way, way)

    def test_no_way_to_what_is_done_or_waits(self):
        for journey in journeys(100, 206):
            every = [journey.way(done, spot) for done in journey.states() for spot in journey.free(done)]
            for done in journey.states():
                fine = journey.ways(done)
                for way in every:
                    if way not in fine:
                        with self.assertRaises(NoWay):
                            gone(journey.book, journey.standing(done), way)

    def test_acts_of_copies_by_whatever_numbers(self):
        book = ("beside", (("many", COPIES, ACT), ("times", 3, TWO)))
        for number in (0, 1, COPIES - 1):
            self.assertEqual(act_at(book, (0, number)), (2, 5))
        self.assertEqual(act_at(book, (1, 2, 1)), (1, 0))
        self.assertEqual(act_at(ACT, ()), (2, 5))
        for way in NO_WAYS + (
            (), (0,), (0, COPIES), (0, -1), (0, 0, 0), (0, False), (1, 3, 0), (1, 0, 2), (2,), (1, 0), (True, 0),
            [0, 0], (0, [0]), (1, 0, None), (1, "0", 0),
        ):
            with self.assertRaises(NoWay, msg=way) as caught:
                act_at(book, way)
            self.assertIs(caught.exception.way, way)
        for word in ("times", "many"):
            with self.assertRaises(NoWay):
                act_at((word, 0, ACT), (0,))
        for thing in odd_things():
            with self.assertRaises(NoWay) as caught:
                act_at(MANY, thing)
            self.assertIs(caught.exception.way, thing)

    def test_far_copies(self):
        chance = random.Random(207)
        for book in far_books():
            standing = begin(book)
            for _ in range(12):
                on = asked_twice(self, ways, book, standing)
                self.assertEqual(len(on) == 0, is_ended(book, standing))
                self.assertEqual(on, tuple(sorted(set(on))))
                if not on:
                    break
                way = chance.choice(on)
                act_at(book, way)
                standing = asked_twice(self, gone, book, standing, way)
                self.assertIs(asked_twice(self, is_standing, book, standing), True)

    def test_the_last_of_far_copies(self):
        book = ("then", (("times", COPIES, TWO), ACT))
        last = (0, (COPIES - 1, (1, 0)))
        self.assertEqual(ways(book, last), ((0, COPIES - 1, 1),))
        self.assertEqual(gone(book, last, (0, COPIES - 1, 1)), (1, 0))
        self.assertEqual(gone(book, (0, (COPIES - 2, (1, 0))), (0, COPIES - 2, 1)), (0, (COPIES - 1, (0, 0))))
        crowd = ("many", COPIES, ACT)
        self.assertEqual(gone(crowd, ((1, 0), (COPIES - 1, 1)), (0,)), ((COPIES, 1),))
        self.assertEqual(gone(crowd, begin(crowd), (0,)), ((COPIES - 1, 0), (1, 1)))


class Texts(unittest.TestCase):
    def test_the_one_that_is_told(self):
        book = ("beside", (ACT, ("many", 3, ACT), TWO))
        self.assertEqual(standing_text(book, (1, ((2, 0), (1, 1)), (1, 0))), "[1,{2x0,1x1},1:0]")

    def test_of_each_kind(self):
        for book, standing, text in (
            (ACT, 0, "0"), (ACT, 1, "1"), (NONE, (0, None), "0:"), (TWO, (2, None), "2:"), (TWO, (1, 0), "1:0"),
            (("beside", ()), (), "[]"), (("beside", (ACT,)), (1,), "[1]"), (("many", 0, ACT), (), "{}"),
            (("many", COPIES, ACT), ((COPIES, 0),), "{1000000000000000x0}"), (("times", 9, ACT), (7, 0), "7:0"),
            (("times", 0, ACT), (0, None), "0:"), (("times", 2, TWO), (1, (1, 0)), "1:1:0"),
            (("many", 2, TWO), ((1, (0, 0)), (1, (2, None))), "{1x0:0,1x2:}"),
        ):
            self.assertEqual(asked_twice(self, standing_text, book, standing), text)

    def test_by_chance(self):
        for journey in journeys(200, 208):
            texts = {}
            for done in journey.states():
                standing = journey.standing(done)
                text = asked_twice(self, standing_text, journey.book, standing)
                self.assertEqual(text, plain_text(journey.book, standing))
                self.assertEqual(texts.setdefault(text, standing), standing)


class Beyond(unittest.TestCase):
    def test_books_beyond_the_bounds(self):
        book = TWO
        for _ in range(DEEP - 2):
            book = ("times", 3, book)
        standing = begin(book)
        for _ in range(5):
            standing = gone(book, standing, ways(book, standing)[0])
        left = rest(book, standing)
        for _ in range(4):
            self.assertGreater(self.depth(left), DEEP)
            here = begin(left)
            self.assertIs(is_standing(left, here), True)
            for _ in range(7):
                here = gone(left, here, ways(left, here)[0])
                self.assertIs(is_standing(left, here), True)
                self.assertEqual(standing_text(left, here), plain_text(left, here))
            self.assertEqual(acts_in(left) - 7, acts_in(rest(left, here)))
            left = rest(left, here)
        wide = ("beside", (TWO,) * 90)
        self.assertEqual(len(ways(wide, begin(wide))), 90)
        self.assertEqual(begin(nested(40, ACT)), begin(("then", (nested(39, ACT),))))

    def depth(self, book):
        return 1 + max([self.depth(part) for part in inner_books(book)], default=0)


if __name__ == "__main__":
    unittest.main()
