"""[19], [20]: plans."""

import random
import unittest

from planning import chance_plan, plain_pieces, plain_planfaults
from samples import asked_twice, odd_things, spoiled
from worlds import ACT, NONE, act_count, chance_books, far_books, nested, plain_is_order, plain_spots, wide_books
from stintpurse.bounds import COPIES, DEEP, ROW
from stintpurse.errors import TooMany
from stintpurse.pairs import joined, power, whole
from stintpurse.plans import pieces_of, plan_least, planfault, spelled

DOWN = ("act", 5, 2)
EVEN = ("act", 4, 4)
BOTH = ("then", (ACT, DOWN))
APART = (((), ()), (((0, 1),), ((1, 1),)))
IN_ONE = (((), ()), (((0, 1), (1, 1)),))
WOVEN = ("beside", (BOTH, ACT))
WOVEN_PLAN = ((APART, ()), (((0, 1), (1, 1)), ((0, 1),)))


class Faults(unittest.TestCase):
    def none(self, book, plan):
        self.assertIsNone(asked_twice(self, planfault, book, plan), (book, plan))

    def fault(self, book, thing, place, why):
        self.assertEqual(asked_twice(self, planfault, book, thing), (place, why), (book, thing))
        # the same deep within, in each kind of book
        self.assertEqual(planfault(("times", 3, book), (thing, ())), ((0,) + place, why))
        self.assertEqual(planfault(("many", 3, book), (thing, ())), ((0,) + place, why))
        outer = ("then", (ACT, ("beside", (NONE, book, NONE))))
        within = (((), ((((), ()), thing, None), ())), ())
        self.assertEqual(planfault(outer, within), ((1, 1) + place, why))

    def test_plans_of_each_kind(self):
        for book, plan in (
            (ACT, ()),
            (BOTH, APART),
            (BOTH, IN_ONE),
            (("beside", BOTH[1]), (((), ()), (((1, 1),), ((0, 1),)))),
            (WOVEN, WOVEN_PLAN),
            (WOVEN, ((APART, ()), (((0, 1),), ((1, 1),), ((0, 1),)))),
            (WOVEN, ((APART, ()), (((0, 1), (0, 1), (1, 1)),))),
            (WOVEN, ((APART, ()), (((0, 2), (1, 1)),))),
            (WOVEN, ((APART, ()), (((1, 1), (0, 2)),))),
            (WOVEN, ((IN_ONE, ()), (((1, 1), (0, 1)),))),
            (("then", (BOTH, ACT)), ((APART, ()), (((0, 1),), ((0, 1), (1, 1))))),
            (("times", 3, BOTH), (APART, (6,))),
            (("times", 3, BOTH), (APART, (1, 5, 6))),
            (("times", 3, BOTH), (APART, (1, 2, 3, 4, 5, 6))),
            (("times", 3, BOTH), (IN_ONE, (3,))),
            (("many", 3, BOTH), (APART, (1, 1))),
            (("many", 3, BOTH), (APART, (2,))),
            (("many", 3, BOTH), (IN_ONE, (1,))),
        ):
            self.none(book, plan)

    def test_books_without_acts(self):
        for book, plan in (
            (NONE, ((), ())),
            (("beside", ()), ((), ())),
            (("then", (NONE, ("beside", ()))), ((((), ()), ((), ())), ())),
            (("times", COPIES, NONE), (((), ()), ())),
            (("many", COPIES, NONE), (((), ()), ())),
            (("times", 0, ACT), ((), ())),
            (("many", 0, ACT), ((), (1,))),
            (("many", 0, BOTH), (APART, (2,))),
            (("times", 0, ("many", COPIES, ACT)), (((), (1,)), ())),
            (("then", (ACT, ("many", 0, ACT), NONE)), (((), ((), (1,)), ((), ())), (((0, 1),),))),
            (("many", 0, ("many", 0, ACT)), (((), (1,)), ())),
        ):
            self.none(book, plan)
        for book, thing, why in (
            (NONE, (), "plan"), (("times", 0, ACT), (), "plan"), (("many", 0, ACT), (), "plan"),
            (("times", 0, ACT), ((), (1,)), "ends"), (("times", 0, ACT), ((), (0,)), "ends"),
            (("times", COPIES, NONE), (((), ()), (COPIES,)), "ends"), (("times", 5, NONE), (((), ()), (0,)), "ends"),
            (("many", 0, ACT), ((), ()), "counts"), (("many", 0, ACT), ((), (2,)), "counts"),
            (("many", 0, BOTH), (APART, (1,)), "counts"), (("many", 5, NONE), (((), ()), (1,)), "counts"),
            (NONE, ((), ((),)), "pieces"), (NONE, ((), (((0, 1),),)), "pieces"), (NONE, (((),), ()), "plans"),
        ):
            self.fault(book, thing, (), why)
        self.fault(("then", (ACT, ("many", 0, ACT))), (((), ((), (1,))), (((0, 1),), ((1, 1),))), (), "pieces")

    def test_plan(self):
        for thing in odd_things() + [((),), [()], {}, 0, "", ((), ())]:
            self.fault(ACT, thing, (), "plan")
        for book in (BOTH, ("beside", BOTH[1]), ("times", 2, ACT), ("many", 2, ACT)):
            for thing in (
                None, (), "", {}, 0, [(), ()], ((),), ((), (), ()), ((), []), ((), None), ((), "12"), ((), {}), ((), 2),
            ):
                self.fault(book, thing, (), "plan")
        for thing in (([(), ()], APART[1]), (None, APART[1]), ("ab", APART[1]), ({}, APART[1]), (2, APART[1])):
            self.fault(BOTH, thing, (), "plan")
        for book in (("times", 2, ACT), ("many", 2, ACT)):
            for inner in ([], None, 0, "", ((), ())):
                self.fault(book, (inner, (2,)), (0,), "plan")

    def test_plans(self):
        for plans in ((), ((),), ((), (), ())):
            self.fault(BOTH, (plans, APART[1]), (), "plans")
        self.fault(("beside", BOTH[1]), ((None,), ()), (), "plans")
        self.fault(("beside", BOTH[1]), ((None, None, None), None), (), "plan")

    def test_pieces(self):
        for pieces in (
            (), (((0, 1),),), (((1, 1),),), (((0, 1),), ((1, 1),), ()), ((), ((0, 1), (1, 1))), (((0, 1), (1, 2)),),
            (((0, 2), (1, 1)),), (((0, 1), (1, 1), (1, 1)),), (((0, 1), (0, 1), (1, 1)),), (((1, 1),), ((0, 1),)),
            (((1, 1), (0, 1)),), (((0, 0), (0, 1), (1, 1)),), (((0, -1), (0, 2), (1, 1)),), (((0, 1), (1, 1), (2, 1)),),
            (((0, 1), (-1, 1)),), (((0, 1), (2, 1)),), (((0, True), (1, 1)),), (((False, 1), (1, 1)),),
            (((0, 1), (True, 1)),), (((0, 1), [1, 1]),), ([(0, 1), (1, 1)],), (((0, 1, 1), (1, 1)),), (((0,), (1, 1)),),
            ((0, 1), (1, 1)), (((0, "1"), (1, 1)),), (((0, None), (1, 1)),), ((None, (1, 1)),), (None,), ("ab",),
            (((0, 1), (1, 1)), None), ((((0, 1), (1, 1)),),), (((0, (1,)), (1, 1)),), ({0: 1, 1: 1},),
            (((0, 10 ** 59), (1, 1)),), (((0, 1), (10 ** 59, 1)),),
        ):
            self.fault(BOTH, (((), ()), pieces), (), "pieces")
        both = ("beside", BOTH[1])
        for pieces in ((((1, 1),),), (((1, 1), (0, 2)),), ((), ((1, 1), (0, 1))), (((1, 1), (0, 1), (0, 1)),)):
            self.fault(both, (((), ()), pieces), (), "pieces")

    def test_a_then_takes_its_books_in_their_order(self):
        book = ("then", (BOTH, BOTH))
        for pieces, fine in (
            ((((0, 2), (1, 2)),), True), ((((0, 1),), ((0, 1), (1, 1)), ((1, 1),)), True),
            ((((0, 1), (1, 1)), ((0, 1), (1, 1))), False), ((((0, 1), (1, 2), (0, 1)),), False),
            ((((1, 2), (0, 2)),), False), ((((0, 1),), ((1, 2),), ((0, 1),)), False),
        ):
            plan = ((APART, APART), pieces)
            if fine:
                self.none(book, plan)
            else:
                self.fault(book, plan, (), "pieces")
            self.none(("beside", book[1]), plan)

    def test_ends(self):
        book = ("times", 3, BOTH)
        for ends in (
            (), (5,), (7,), (1, 5), (1, 7), (0, 6), (6, 6), (1, 1, 6), (3, 2, 6), (6, 1), (-1, 6), (True, 6), (1, None),
            (1, "6"), ("1", 6), ((1,), 6), (None, 6), (1, (6,)), (5, 6, 7), (False, 6), ([1], 6), (1, 6, {}),
        ):
            self.fault(book, (APART, ends), (), "ends")
        self.fault(("times", 1, ACT), ((), (True,)), (), "ends")
        self.fault(("times", 1, ACT), ((), (2,)), (), "ends")
        self.fault(book, (IN_ONE, (6,)), (), "ends")

    def test_far_ends(self):
        book = ("times", COPIES, ("then", (ACT,) * 3))
        copy = (((),) * 3, (((0, 1),), ((1, 1),), ((2, 1),)))
        last = 3 * COPIES
        self.none(book, (copy, (1, last - 1, last)))
        self.none(book, (copy, (last,)))
        for ends in ((last - 1,), (last + 1,), (COPIES,), (1, last, last + 1), (last, last), (), (10 ** 59,)):
            self.fault(book, (copy, ends), (), "ends")
        deep = ("times", 10 ** 7, ("times", 10 ** 8, ACT))
        self.none(deep, (((), (10 ** 8,)), (10 ** 7,)))
        self.none(deep, (((), (1, 10 ** 8)), (3, 10 ** 7 + 1, 2 * 10 ** 7)))
        self.fault(deep, (((), (1, 10 ** 8)), (3, 10 ** 7)), (), "ends")
        self.fault(deep, (((), (10 ** 8 + 1,)), (10 ** 7,)), (0,), "ends")

    def test_counts(self):
        book = ("many", 3, ("then", (ACT, DOWN, EVEN)))
        copy = (((),) * 3, (((0, 1),), ((1, 1),), ((2, 1),)))
        for counts in ((3,), (1, 2), (2, 1), (1, 1, 1)):
            self.none(book, (copy, counts))
        for counts in (
            (), (2,), (4,), (1, 1), (1, 3), (0, 3), (3, 0), (-1, 4), (True, 2), (2, True), (1, "2"), (None, 3), ([3],),
            ((3,),), (1, 1, 1, 1), (9,), (1, None), ({},), (10 ** 59,), (False, 3),
        ):
            self.fault(book, (copy, counts), (), "counts")
        self.none(("many", COPIES, book[2]), (copy, (3,)))
        self.fault(("many", COPIES, book[2]), (copy, (3 * COPIES,)), (), "counts")

    def test_the_first_is_told(self):
        both = ("beside", (("times", 2, ACT), ("many", 2, ACT)))
        bad_ends, bad_counts = ((), (3,)), ((), (3,))
        fine = ((), (2,)), ((), (1,))
        for thing, told in (
            ((fine, (((0, 1), (1, 1)),)), None),
            (((bad_ends, bad_counts), None), ((), "plan")),
            (((bad_ends,), ()), ((), "plans")),
            (((bad_ends, bad_counts), ()), ((0,), "ends")),
            (((fine[0], bad_counts), ()), ((1,), "counts")),
            (((fine[0], None), ()), ((1,), "plan")),
            (((bad_ends, None), ()), ((0,), "ends")),
            (((([], (3,)), None), ()), ((0, 0), "plan")),
            ((fine, ()), ((), "pieces")),
        ):
            self.assertEqual(asked_twice(self, planfault, both, thing), told, thing)

    def test_spoiled_plans(self):
        chance = random.Random(71)
        for book in [BOTH, WOVEN] + chance_books(60, 72, deep=3, widest=2):
            plan = chance_plan(chance, book)
            self.none(book, plan)
            for bad in spoiled(plan):
                faults = plain_planfaults(book, bad)
                self.assertEqual(planfault(book, bad), faults[0] if faults else None, (book, bad))

    def test_plans_by_chance(self):
        chance = random.Random(73)
        for book in chance_books(300, 74, deep=4) + far_books() + wide_books():
            self.none(book, chance_plan(chance, book))

    def test_plans_of_other_books(self):
        chance = random.Random(75)
        books = chance_books(80, 76, deep=2)
        plans = [chance_plan(chance, book) for book in books]
        for book in books:
            for plan in plans + odd_things():
                faults = plain_planfaults(book, plan)
                self.assertEqual(planfault(book, plan), faults[0] if faults else None, (book, plan))

    def test_deep_ones(self):
        plan = ()
        for _ in range(DEEP - 1):
            plan = ((plan,), (((0, 1),),))
        self.none(nested(DEEP - 1, ACT), plan)
        inner = None
        for _ in range(DEEP - 1):
            inner = ((inner,), (((0, 1),),))
        self.assertEqual(planfault(nested(DEEP - 1, ACT), inner), ((0,) * (DEEP - 1), "plan"))


class Pieces(unittest.TestCase):
    def test_told_ones(self):
        for book, plan, pairs in (
            (ACT, (), ((2, 5),)),
            (NONE, ((), ()), ()),
            (BOTH, APART, ((2, 5), (5, 2))),
            (BOTH, IN_ONE, ((2, 2),)),
            (WOVEN, WOVEN_PLAN, ((2, 8), (5, 2))),
            (("times", 3, BOTH), (APART, (1, 5, 6)), ((2, 5), (5, 5), (5, 2))),
            (("many", 3, BOTH), (APART, (1, 1)), ((2, 11), (11, 2))),
            (("many", 3, BOTH), (APART, (2,)), ((2, 2),)),
            (("many", 0, BOTH), (APART, (2,)), ()),
            (("times", 0, BOTH), (APART, ()), ()),
        ):
            self.assertEqual(asked_twice(self, pieces_of, book, plan), pairs, (book, plan))
            self.assertEqual(asked_twice(self, plan_least, book, plan), whole(pairs)[0])

    def test_against_the_acts_spelled_out(self):
        chance = random.Random(81)
        for book in chance_books(500, 82, most=ROW, deep=4):
            plan = chance_plan(chance, book)
            pairs = dict(plain_spots(book))
            pieces = plain_pieces(book, plan)
            rows = [tuple(pairs[spot] for spot in piece) for piece in pieces]
            self.assertEqual(asked_twice(self, pieces_of, book, plan), tuple(whole(row) for row in rows), (book, plan))
            row = tuple(pair for row in rows for pair in row)
            self.assertEqual(asked_twice(self, plan_least, book, plan), whole(row)[0], (book, plan))

    def test_far_runs_that_begin_and_end_within_copies(self):
        book = ("times", COPIES, ("then", (ACT, DOWN, ("act", 1, 3))))
        copy = (((),) * 3, (((0, 1),), ((1, 1),), ((2, 1),)))
        one, two, three = (2, 5), (5, 2), (1, 3)
        last = 3 * COPIES
        for ends, pairs in (
            ((last,), (power(whole((one, two, three)), COPIES),)),
            ((1, last), (one, joined(power(whole((two, three, one)), COPIES - 1), whole((two, three))))),
            ((1, last - 2, last), (one, power(whole((two, three, one)), COPIES - 1), whole((two, three)))),
            ((2, last - 1, last), (whole((one, two)), power(whole((three, one, two)), COPIES - 1), three)),
            ((1, 2, 3, last), (one, two, three, power(whole((one, two, three)), COPIES - 1))),
            ((4, last), (whole((one, two, three, one)), joined(
                whole((two, three)), power(whole((one, two, three)), COPIES - 2)))),
        ):
            plan = (copy, ends)
            self.assertIsNone(planfault(book, plan))
            self.assertEqual(asked_twice(self, pieces_of, book, plan), pairs, ends)
            self.assertEqual(plan_least(book, plan), whole(pairs)[0])

    def test_far_crowds(self):
        book = ("many", COPIES, ("then", (ACT, DOWN, ("act", 1, 3))))
        copy = (((),) * 3, (((0, 1),), ((1, 1),), ((2, 1),)))
        powers = tuple(power(pair, COPIES) for pair in ((2, 5), (5, 2), (1, 3)))
        for counts, pairs in (
            ((1, 1, 1), powers), ((3,), (whole(powers),)), ((1, 2), (powers[0], whole(powers[1:]))),
        ):
            self.assertEqual(asked_twice(self, pieces_of, book, (copy, counts)), pairs)

    def test_far_copies_are_like_few_ones(self):
        # what the same plan comes to is a matter of how many copies there are by one step each from some number on
        chance = random.Random(83)
        for copy in chance_books(60, 84, fewest=1, most=12):
            plan = chance_plan(chance, copy)
            row = pieces_of(copy, plan)
            for k in (2, 3, COPIES):
                many = k * len(row)
                told = pieces_of(("times", k, copy), (plan, (1, many) if many > 1 else (1,)))
                rest = joined(whole(row[1:]), power(whole(row), k - 1))
                self.assertEqual(told, (row[0], rest) if many > 1 else (row[0],))
                told = pieces_of(("many", k, copy), (plan, (1,) * len(row)))
                self.assertEqual(told, tuple(power(pair, k) for pair in row))

    def test_far_books_answer_at_once(self):
        chance = random.Random(85)
        for book in far_books() + wide_books():
            plan = chance_plan(chance, book)
            told = asked_twice(self, pieces_of, book, plan)
            self.assertEqual(asked_twice(self, plan_least, book, plan), whole(told)[0])


class Spelled(unittest.TestCase):
    def test_told_ones(self):
        for book, plan, spots in (
            (ACT, (), ((),)),
            (NONE, ((), ()), ()),
            (BOTH, IN_ONE, ((0,), (1,))),
            (WOVEN, WOVEN_PLAN, ((0, 0), (1,), (0, 1))),
            (("times", 2, BOTH), (APART, (4,)), ((0, 0), (0, 1), (1, 0), (1, 1))),
            (("many", 2, BOTH), (APART, (2,)), ((0, 0), (1, 0), (0, 1), (1, 1))),
            (("many", 2, BOTH), (IN_ONE, (1,)), ((0, 0), (0, 1), (1, 0), (1, 1))),
        ):
            self.assertEqual(asked_twice(self, spelled, book, plan), spots)

    def test_against_the_plain_ones(self):
        chance = random.Random(91)
        for book in chance_books(400, 92, most=60, deep=4):
            plan = chance_plan(chance, book)
            told = asked_twice(self, spelled, book, plan)
            self.assertEqual(told, tuple(spot for piece in plain_pieces(book, plan) for spot in piece), (book, plan))
            self.assertTrue(plain_is_order(book, told))
            pairs = dict(plain_spots(book))
            self.assertEqual(whole(tuple(pairs[spot] for spot in told))[0], plan_least(book, plan))

    def test_too_many(self):
        for book, plan in (
            (("times", ROW, ACT), ((), (ROW,))), (("many", ROW, ACT), ((), (1,))),
            (("times", 10, ("many", 40, ACT)), (((), (1,)), (10,))),
        ):
            self.assertEqual(act_count(book), ROW)
            self.assertEqual(len(asked_twice(self, spelled, book, plan)), ROW)
        for book, plan in (
            (("times", ROW + 1, ACT), ((), (ROW + 1,))), (("many", ROW + 1, ACT), ((), (1,))),
            (("many", COPIES, ACT), ((), (1,))), (("times", COPIES, ACT), ((), (1, COPIES))),
            (("then", (("many", ROW, ACT), ACT)), ((((), (1,)), ()), (((0, 1), (1, 1)),))),
        ):
            with self.assertRaises(TooMany) as caught:
                spelled(book, plan)
            self.assertEqual(caught.exception.most, ROW)

    def test_far_copies_without_acts(self):
        for book, plan in (
            (("times", COPIES, NONE), (((), ()), ())),
            (("many", COPIES, NONE), (((), ()), ())),
            (("many", 10 ** 7, ("times", 10 ** 8, NONE)), ((((), ()), ()), ())),
            (("times", 0, ("many", COPIES, ACT)), (((), (1,)), ())),
            (("many", 0, ("many", COPIES, ACT)), (((), (1,)), (1,))),
            (("times", 0, ("times", COPIES, ACT)), (((), (1, COPIES)), ())),
            (("times", COPIES, ("many", 0, ACT)), (((), (1,)), ())),
            (("many", COPIES, ("times", 0, ACT)), (((), ()), ())),
        ):
            self.assertIsNone(planfault(book, plan))
            self.assertEqual(asked_twice(self, spelled, book, plan), ())
            around = ("beside", (ACT, book))
            self.assertEqual(spelled(around, (((), plan), (((0, 1),),))), ((0,),))


if __name__ == "__main__":
    unittest.main()
