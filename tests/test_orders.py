"""[22], [23]: orders, and moves of them."""

import itertools
import random
import unittest

from samples import asked_twice, odd_things, spoiled
from worlds import (
    ACT, NONE, act_count, all_orders, chance_books, chance_order, far_books, plain_is_order, plain_spots, wide_books,
)
from stintpurse.best import best_plan
from stintpurse.bounds import COPIES, ROW
from stintpurse.errors import NoMove, NoOrder, TooMany
from stintpurse.formed import least
from stintpurse.orders import is_order, moved, order_least, row_of
from stintpurse.pairs import whole
from stintpurse.plans import spelled

DOWN = ("act", 5, 2)
BOOK = ("beside", (("then", (ACT, DOWN)), ("many", 2, ("act", 4, 4)), ("times", 2, ("act", 1, 0))))
ORDER = ((1, 1), (0, 0), (2, 0), (1, 0), (2, 1), (0, 1))
MANY = [
    ("times", ROW + 1, ACT), ("many", ROW + 1, ACT), ("many", COPIES, ACT), ("times", COPIES, BOOK),
    ("then", (("many", ROW, ACT), ACT)), ("times", 10 ** 7, ("many", 10 ** 8, ACT)),
]
EMPTY = [
    NONE, ("beside", ()), ("times", COPIES, NONE), ("many", COPIES, NONE), ("times", 0, ("many", COPIES, ACT)),
    ("many", 0, ("many", COPIES, ACT)), ("many", COPIES, ("times", 0, ACT)), ("times", COPIES, ("many", 0, ACT)),
    ("many", 10 ** 7, ("times", 10 ** 8, ("beside", (NONE, NONE)))),
]


class Orders(unittest.TestCase):
    def test_told_ones(self):
        self.assertIs(asked_twice(self, is_order, BOOK, ORDER), True)
        self.assertEqual(
            asked_twice(self, row_of, BOOK, ORDER), ((4, 4), (2, 5), (1, 0), (4, 4), (1, 0), (5, 2))
        )
        self.assertEqual(asked_twice(self, order_least, BOOK, ORDER), 4)
        self.assertIs(is_order(ACT, ((),)), True)
        self.assertEqual(row_of(ACT, ((),)), ((2, 5),))
        self.assertEqual(order_least(DOWN, ((),)), 5)

    def test_all_small_ones(self):
        for book in chance_books(120, 111, most=4, deep=3):
            spots = [spot for spot, _ in plain_spots(book)]
            found = 0
            for order in itertools.permutations(spots):
                told = asked_twice(self, is_order, book, order)
                self.assertIs(told, plain_is_order(book, list(order)), (book, order))
                found += told
            self.assertEqual(found, len(all_orders(book)))

    def test_rows(self):
        chance = random.Random(112)
        for book in chance_books(150, 113, most=40, deep=4):
            order = chance_order(chance, book)
            pairs = dict(plain_spots(book))
            row = tuple(pairs[spot] for spot in order)
            self.assertIs(asked_twice(self, is_order, book, order), True)
            self.assertEqual(asked_twice(self, row_of, book, order), row)
            self.assertEqual(asked_twice(self, order_least, book, order), whole(row)[0])

    def test_none_has_a_lesser_purse_and_some_has_it(self):
        for book in chance_books(200, 114, fewest=2, most=6, greatest=6):
            needs = [order_least(book, order) for order in all_orders(book)]
            self.assertEqual(min(needs), least(book), book)

    def test_best_plans_spelled_out(self):
        for book in chance_books(150, 115, most=ROW, deep=4, copies=(0, 1, 2, 5)) + wide_books():
            if act_count(book) <= ROW:
                order = spelled(book, best_plan(book))
                self.assertIs(is_order(book, order), True)
                self.assertEqual(order_least(book, order), least(book))

    def test_books_of_many_acts(self):
        for book in (("times", ROW, ACT), ("many", 20, ("times", 20, ACT)), ("many", ROW, DOWN)):
            spots = tuple(spot for spot, _ in plain_spots(book))
            self.assertEqual(len(spots), ROW)
            self.assertIs(is_order(book, spots), True)
            self.assertEqual(row_of(book, spots), (part_pair(book),) * ROW)
            self.assertIs(is_order(book, spots[::-1]), book[0] == "many" and book[2] == DOWN)

    def test_without_acts(self):
        for book in EMPTY:
            self.assertIs(asked_twice(self, is_order, book, ()), True, book)
            self.assertEqual(asked_twice(self, row_of, book, ()), ())
            self.assertEqual(asked_twice(self, order_least, book, ()), 0)
            self.assertIs(is_order(book, ((),)), False)
            self.assertIs(is_order(book, ((0,),)), False)
            self.assertIs(is_order(book, []), False)
            around = ("then", (book, ACT, book))
            self.assertIs(is_order(around, ((1,),)), True)
            self.assertEqual(row_of(around, ((1,),)), ((2, 5),))

    def test_too_many(self):
        for book in MANY:
            for thing in (None, (), ((0,),), "text", ORDER):
                self.assertIs(asked_twice(self, is_order, book, thing), False)
                for refused in (
                    lambda: row_of(book, thing), lambda: order_least(book, thing), lambda: moved(book, thing, None),
                ):
                    with self.assertRaises(TooMany) as caught:
                        refused()
                    self.assertEqual(caught.exception.most, ROW)
        spots = tuple((copy,) for copy in range(ROW + 1))
        self.assertIs(is_order(("times", ROW + 1, ACT), spots), False)
        self.assertIs(is_order(("times", ROW, ACT), spots[:ROW]), True)

    def test_far_ones_answer_at_once(self):
        for book in far_books():
            if act_count(book) > ROW:
                self.assertIs(is_order(book, ()), False)
                with self.assertRaises(TooMany):
                    row_of(book, ())

    def test_no_orders(self):
        bad = [
            ORDER[1:], ORDER + ORDER[:1], ORDER[1:] + ORDER[1:2], list(ORDER), ORDER[::-1], (),
            # truths, lists and texts in the place of numbers and spots
            ((1, True),) + ORDER[1:], ((True, 1),) + ORDER[1:], ORDER[:1] + ((False, 0),) + ORDER[2:],
            ([1, 1],) + ORDER[1:], ((1, 2),) + ORDER[1:], ((1, -1),) + ORDER[1:], ((1,),) + ORDER[1:],
            ((1, 1, 0),) + ORDER[1:], ("11",) + ORDER[1:], (None,) + ORDER[1:], (((1, 1),),) + ORDER[1:],
            ((1, "1"),) + ORDER[1:], ((1, [1]),) + ORDER[1:], ({1: 1},) + ORDER[1:], ((1, (1,)),) + ORDER[1:],
            ((1, None),) + ORDER[1:], ((1, 10 ** 59),) + ORDER[1:], ((1,) * 2000,) + ORDER[1:], ((),) + ORDER[1:],
            # out of their turn: of the then, of the times
            ((1, 1), (0, 1), (2, 0), (1, 0), (2, 1), (0, 0)), ((1, 1), (0, 0), (2, 1), (1, 0), (2, 0), (0, 1)),
        ]
        for thing in bad + odd_things():
            self.assertIs(asked_twice(self, is_order, BOOK, thing), False, thing)
            for refused in (
                lambda: row_of(BOOK, thing), lambda: order_least(BOOK, thing),
                lambda: moved(BOOK, thing, ((0,), 1)), lambda: moved(BOOK, thing, None),
            ):
                with self.assertRaises(NoOrder):
                    refused()

    def test_spoiled_ones(self):
        for bad in spoiled(ORDER):
            # only an exchange of two that stand side by side may be an order again
            fine = bad.__class__ is tuple and sorted(map(repr, bad)) == sorted(map(repr, ORDER))
            fine = fine and plain_is_order(BOOK, list(bad))
            self.assertIs(asked_twice(self, is_order, BOOK, bad), fine, bad)


def part_pair(book):
    while book[0] != "act":
        book = book[2]
    return book[1:]


def plain_moved(order, places, at):
    """What comes of a move, one by one."""
    left = [spot for place, spot in enumerate(order) if place not in places]
    for number, place in enumerate(places):
        left.insert(at + number, order[place])
    return tuple(left)


class Moves(unittest.TestCase):
    def refused(self, book, order, move):
        with self.assertRaises(NoMove):
            moved(book, order, move)

    def test_told_ones(self):
        for move, told in (
            (((0,), 0), ORDER),
            (((0,), 5), ORDER[1:] + ORDER[:1]),
            (((5,), 2), ORDER[:2] + ORDER[5:] + ORDER[2:5]),
            (((0, 3), 4), ORDER[1:3] + ORDER[4:] + (ORDER[0], ORDER[3])),
            (((1, 5), 0), (ORDER[1], ORDER[5], ORDER[0]) + ORDER[2:5]),
            (((0, 1, 2, 3, 4, 5), 0), ORDER),
        ):
            self.assertEqual(asked_twice(self, moved, BOOK, ORDER, move), told, move)

    def test_all_moves_of_small_orders(self):
        chance = random.Random(121)
        fine = refused = 0
        for book in chance_books(60, 122, fewest=2, most=5, deep=3):
            order = chance_order(chance, book)
            many = len(order)
            for size in range(1, many + 1):
                for places in itertools.combinations(range(many), size):
                    for at in range(many - size + 1):
                        told = plain_moved(order, places, at)
                        if plain_is_order(book, list(told)):
                            self.assertEqual(asked_twice(self, moved, book, order, (places, at)), told)
                            fine += 1
                        else:
                            self.refused(book, order, (places, at))
                            refused += 1
        self.assertGreater(min(fine, refused), 100)

    def test_edges_of_at_and_of_places(self):
        book, order = ("many", 4, ACT), ((0,), (1,), (2,), (3,))
        self.assertEqual(moved(book, order, ((3,), 0)), ((3,), (0,), (1,), (2,)))
        self.assertEqual(moved(book, order, ((0,), 3)), ((1,), (2,), (3,), (0,)))
        self.assertEqual(moved(book, order, ((0, 3), 2)), ((1,), (2,), (0,), (3,)))
        self.assertEqual(moved(book, order, ((0, 1, 2, 3), 0)), order)
        for move in (
            ((3,), -1), ((0,), 4), ((0, 3), 3), ((0, 1, 2, 3), 1), ((4,), 0), ((-1,), 0), ((0, 4), 0), ((-1, 0), 0),
            ((), 0), ((1, 1), 0), ((2, 1), 0), ((0, 2, 1), 0), ((0,), 10 ** 59), ((10 ** 59,), 0),
        ):
            self.refused(book, order, move)

    def test_no_moves(self):
        book, order = ("many", 4, ACT), ((0,), (1,), (2,), (3,))
        for move in odd_things() + [
            (), ((),), ((), ()),
            ((0,), True), ((True,), 0), ((False,), 0), ((0,), False), ([0], 1), [(0,), 1], ((0,), "1"), (("0",), 1),
            ((0,), None), ((None,), 1), ((0,), (1,)), (((0,),), 1), (0, 1), ((0,),), ((0,), 1, 1), ({0: 1}, 1),
            ((0,), {}), ((0,), []), ("0", 1), (([],), 1), (({},), 1), (None, 1), ((0, None), 1), ((0, "1"), 1),
        ]:
            self.refused(book, order, move)
        for bad in spoiled(((0, 2), 1)):
            fine = (((0, 1), 1), ((0, 2), 0), ((0, 2), 2), ((1, 2), 1), ((0, 3), 1), ((2,), 1), ((0,), 1))
            if repr(bad) in map(repr, fine):
                self.assertEqual(moved(book, order, bad), plain_moved(order, *bad))
            else:
                self.refused(book, order, bad)

    def test_without_acts(self):
        for book in EMPTY:
            for move in (((), 0), ((0,), 0), None, ()):
                self.refused(book, (), move)

    def test_of_one_act(self):
        self.assertEqual(moved(ACT, ((),), ((0,), 0)), ((),))
        self.refused(ACT, ((),), ((0,), 1))
        self.refused(ACT, ((),), ((1,), 0))

    def test_of_many_acts(self):
        book = ("many", ROW, ACT)
        order = tuple((copy,) for copy in range(ROW))
        self.assertEqual(moved(book, order, ((ROW - 1,), 0)), order[-1:] + order[:-1])
        self.assertEqual(moved(book, order, (tuple(range(0, ROW, 2)), ROW // 2)), order[1::2] + order[::2])

    def test_refusals_in_their_turn(self):
        with self.assertRaises(TooMany):
            moved(("many", ROW + 1, ACT), None, None)
        with self.assertRaises(NoOrder):
            moved(BOOK, None, None)
        with self.assertRaises(NoMove):
            moved(BOOK, ORDER, None)


if __name__ == "__main__":
    unittest.main()
