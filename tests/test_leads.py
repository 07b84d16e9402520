"""[24], [3] (d): leadings."""

import random
import unittest

from samples import asked_twice, odd_things, spoiled
from worlds import (
    ACT, NONE, act_count, all_orders, chance_act, chance_books, chance_order, plain_is_order, plain_least, plain_spots,
    wide_books,
)
from stintpurse.best import best_plan
from stintpurse.bounds import COPIES, ROW, SMALL
from stintpurse.errors import NoOrder, TooMany
from stintpurse.formed import least
from stintpurse.leads import leading, leading_holds
from stintpurse.orders import moved, order_least
from stintpurse.pairs import whole
from stintpurse.plans import spelled

DOWN = ("act", 5, 2)
PAIR = ("beside", (ACT, DOWN))
BEST, WORST = ((0,), (1,)), ((1,), (0,))


def plain_move(order, move):
    """The order behind a move, None where move, anything, is none."""
    if move.__class__ is not tuple or len(move) != 2 or move[0].__class__ is not tuple:
        return None
    places, at = move
    if any(number.__class__ is not int for number in (*places, at)) or places == ():
        return None
    if list(places) != sorted(set(places)) or not set(places) <= set(range(len(order))):
        return None
    left = [spot for place, spot in enumerate(order) if place not in places]
    if not 0 <= at <= len(left):
        return None
    left[at:at] = [order[place] for place in places]
    return tuple(left)


def plain_holds(book, order, thing):
    """Whether thing, anything, is a leading, as the sentences say."""
    if thing.__class__ is not tuple:
        return False
    pairs = dict(plain_spots(book))
    needs = [whole(tuple(pairs[spot] for spot in order))[0]]
    for move in thing:
        order = plain_move(order, move)
        if order is None or not plain_is_order(book, list(order)):
            return False
        needs.append(whole(tuple(pairs[spot] for spot in order))[0])
    return needs == sorted(needs, reverse=True) and needs[-1] == least(book)


class Leading(unittest.TestCase):
    def look(self, book, order):
        """Goes along a leading, and tells what the orders on the way ask for."""
        moves = asked_twice(self, leading, book, order)
        needs = [order_least(book, order)]
        for move in moves:
            order = moved(book, order, move)
            needs.append(order_least(book, order))
        self.assertEqual(needs, sorted(needs, reverse=True), (book, order, moves))
        self.assertEqual(needs[-1], least(book), (book, order, moves))
        return needs

    def test_all_orders_of_small_books(self):
        led = 0
        for book in chance_books(150, 131, fewest=2, most=5, greatest=6):
            for order in all_orders(book):
                needs = self.look(book, order)
                self.assertEqual(needs[-1], plain_least(book), book)
                led += needs[0] > needs[-1]
        self.assertGreater(led, 100)

    def test_drawn_orders_of_books_of_all_kinds(self):
        chance = random.Random(132)
        led = 0
        for book in chance_books(600, 133, fewest=4, most=SMALL, deep=5):
            order = chance_order(chance, book)
            needs = self.look(book, order)
            self.assertIs(leading_holds(book, order, leading(book, order)), True)
            led += needs[0] > needs[-1]
        self.assertGreater(led, 100)

    def test_books_of_sixty_acts(self):
        chance = random.Random(134)
        rows = [tuple(chance_act(chance, 30) for _ in range(many)) for many in (59, 20, 10, 6, 4, 3)]
        books = [
            ("beside", rows[0]), ("then", rows[0]), ("many", 3, ("then", rows[1])), ("many", 6, ("then", rows[2])),
            ("many", 3, ("beside", rows[1])), ("times", 6, ("beside", rows[2])), ("many", 10, ("then", rows[3])),
            ("many", 3, ("times", 5, ("then", rows[4]))), ("times", 3, ("many", 5, ("then", rows[4]))),
            ("many", 4, ("beside", (("then", rows[2]), ("times", 5, rows[0][0])))), ("many", SMALL, DOWN),
            ("beside", (("many", 5, ("then", rows[3])), ("many", 5, ("then", rows[5])), ("times", 5, rows[5][0]))),
        ] + [book for book in wide_books() if act_count(book) <= SMALL]
        for book in books:
            for _ in range(3):
                self.look(book, chance_order(chance, book))

    def test_far_numbers(self):
        chance = random.Random(135)
        for book in chance_books(60, 136, fewest=3, most=20, greatest=10 ** 12):
            self.look(book, chance_order(chance, book))

    def test_of_an_order_that_is_best_already(self):
        for book in chance_books(100, 137, most=SMALL, deep=4):
            order = spelled(book, best_plan(book))
            self.look(book, order)
            self.assertIs(leading_holds(book, order, ()), True)
            self.assertIs(leading_holds(book, order, asked_twice(self, leading, book, order)), True)

    def test_of_one_act_or_none(self):
        self.look(ACT, ((),))
        self.assertIs(leading_holds(ACT, ((),), ()), True)
        nothing = (
            NONE, ("beside", ()), ("times", COPIES, NONE), ("many", COPIES, NONE), ("many", COPIES, ("times", 0, ACT)),
            ("times", 0, ("many", COPIES, ACT)), ("many", 10 ** 7, ("times", 10 ** 8, ("beside", (NONE, NONE)))),
        )
        for book in nothing:
            self.look(book, ())
            self.assertIs(leading_holds(book, (), ()), True)
            self.assertIs(leading_holds(book, (), (((), 0),)), False)
            for word in ("then", "beside"):
                self.look((word, (book, ACT, book)), ((1,),))
        for filler in nothing:
            book = ("beside", (filler, ACT, DOWN, filler))
            self.assertEqual(self.look(book, ((2,), (1,))), [5, 2])

    def test_too_many(self):
        for book in (
            ("many", SMALL + 1, ACT), ("times", SMALL + 1, ACT), ("many", COPIES, ACT), ("times", COPIES, PAIR),
            ("beside", (("many", SMALL, ACT), ACT)), ("many", ROW, ACT), ("many", ROW + 1, ACT),
        ):
            for thing in (None, (), tuple((copy,) for copy in range(SMALL + 1))):
                with self.assertRaises(TooMany) as caught:
                    leading(book, thing)
                self.assertEqual(caught.exception.most, SMALL)
        spots = tuple((copy,) for copy in range(SMALL))
        self.look(("many", SMALL, ACT), spots)
        self.look(("times", SMALL, ACT), spots)

    def test_no_orders(self):
        for thing in odd_things() + [(), BEST[:1], BEST + BEST[:1], list(BEST), ((True,), (0,)), ((0,), (2,))]:
            with self.assertRaises(NoOrder):
                leading(PAIR, thing)
            with self.assertRaises(NoOrder):
                leading_holds(PAIR, thing, ())
            with self.assertRaises(NoOrder):
                leading_holds(PAIR, thing, None)


class Holds(unittest.TestCase):
    def test_told_ones(self):
        for order, thing, told in (
            (BEST, (), True), (WORST, (), False), (WORST, (((0,), 1),), True), (WORST, (((1,), 0),), True),
            (WORST, (((0,), 1), ((0,), 1)), False), (BEST, (((0,), 1),), False), (BEST, (((0,), 1), ((0,), 1)), False),
            (BEST, (((0,), 0),), True), (BEST, (((0, 1), 0),) * 5, True), (WORST, (((0,), 0), ((0,), 1)), True),
            (WORST, (((0,), 0),), False),
        ):
            self.assertIs(asked_twice(self, leading_holds, PAIR, order, thing), told, (order, thing))

    def test_whoever_made_it(self):
        chance = random.Random(141)
        good = bad = 0
        for book in chance_books(500, 142, fewest=2, most=5, greatest=5, deep=2):
            order = chance_order(chance, book)
            for _ in range(4):
                moves = []
                for _ in range(chance.randint(0, 3)):
                    places = tuple(sorted(chance.sample(range(len(order)), chance.randint(1, len(order) - 1))))
                    moves.append((places, chance.randint(0, len(order) - len(places))))
                told = plain_holds(book, order, tuple(moves))
                self.assertIs(asked_twice(self, leading_holds, book, order, tuple(moves)), told, (book, order, moves))
                good += told
                bad += not told
        self.assertGreater(min(good, bad), 200)

    def test_no_more_on_the_way(self):
        # behind both moves it is best, but between them it asks for more than at the beginning
        book = ("beside", (ACT, ("act", 6, 2), ("act", 3, 4)))
        order = ((0,), (1,), (2,))
        needs = [order_least(book, given) for given in (order, ((1,), (0,), (2,)), ((0,), (2,), (1,)))]
        self.assertEqual(needs, [4, 6, 2])
        self.assertIs(leading_holds(book, order, (((1,), 2),)), True)
        self.assertIs(leading_holds(book, order, (((1,), 0), ((0,), 2))), False)

    def test_spoiled_ones(self):
        chance = random.Random(143)
        for book in chance_books(40, 144, fewest=3, most=7, greatest=6):
            order = chance_order(chance, book)
            moves = leading(book, order)
            for bad in spoiled(moves):
                told = asked_twice(self, leading_holds, book, order, bad)
                self.assertIs(told, plain_holds(book, order, bad), (book, order, bad))

    def test_anything(self):
        for thing in odd_things() + [()]:
            self.assertIs(asked_twice(self, leading_holds, PAIR, WORST, thing), False)
            for bad in ((thing,), (((0,), 1), thing), ((thing, 1),), (((0,), thing),), (((thing,), 1),)):
                self.assertIs(leading_holds(PAIR, WORST, bad), plain_holds(PAIR, WORST, bad), bad)
        for bad in (
            (((2,), 0),), (((0,), 2),), (((-1,), 0),), (((0,), -1),), (([0], 1),), ([(0,), 1],), [((0,), 1)],
            (((False,), 1),), (((0,), True),), (((0,), "1"),), ((("0",), 1),), (((0,), None),), (((), 1),), ((),),
            (((0,), 1), None), (((0,), 1), ()), {((0,), 1): 1}, ((((0,), 1),),), (((0, 0), 0),), (((1, 0), 0),),
        ):
            self.assertIs(asked_twice(self, leading_holds, PAIR, WORST, bad), False, bad)

    def test_none_that_is_out_of_turn(self):
        book = ("then", (DOWN, ACT))
        self.assertIs(leading_holds(book, BEST, ()), True)
        self.assertIs(leading_holds(book, BEST, (((0,), 1),)), False)
        self.assertIs(leading_holds(book, BEST, (((0,), 1), ((0,), 1))), False)

    def test_of_up_to_four_hundred_acts(self):
        book = ("beside", (("many", ROW - 1, DOWN), ACT))
        ends = tuple((0, copy) for copy in range(ROW - 1))
        order = ends + ((1,),)
        self.assertIs(leading_holds(book, order, ()), False)
        self.assertIs(leading_holds(book, order, (((ROW - 1,), 0),)), True)
        self.assertIs(leading_holds(book, order, tuple(((at,), at - 1) for at in range(ROW - 1, 0, -1))), True)
        self.assertIs(leading_holds(book, order, (((ROW - 1,), 0), ((0,), ROW - 1))), False)
        for more in (("many", ROW + 1, ACT), ("times", COPIES, ACT), ("beside", (("many", ROW, ACT), ACT))):
            for given in (None, (), order):
                with self.assertRaises(TooMany) as caught:
                    leading_holds(more, given, ())
                self.assertEqual(caught.exception.most, ROW)


if __name__ == "__main__":
    unittest.main()
