"""[21], [3] (c): best plans, and the paper that a judge lets by."""

import random
import sys
import unittest

from planning import chance_plan
from samples import asked_twice, odd_things, spoiled
from worlds import ACT, NONE, chance_books, far_books, nested, plain_is_order, plain_least, wide_books
from stintpurse.best import best_plan, purse_holds, purse_paper
from stintpurse.bounds import COPIES, DEEP, ROW
from stintpurse.books import acts_in, turned_book
from stintpurse.formed import forms_paper, least
from stintpurse.plans import plan_least, planfault, spelled

DOWN = ("act", 5, 2)
# the book of which the judge was once slow
SLOW = ("times", 0, ("beside", (
    ("then", (
        ("beside", (
            ("times", 1, ("act", 9, 0)),
            ("beside", (("act", 7, 6), ("act", 8, 4), ("act", 3, 0), ("act", 4, 8))),
            ("beside", (("act", 2, 2), ("act", 0, 1), ("act", 1, 9))),
        )),
        ("times", 3, ("then", (("act", 2, 1), ("act", 4, 0)))),
        ("beside", (
            ("act", 3, 5),
            ("beside", (("act", 0, 6), ("act", 8, 5), ("act", 2, 0), ("act", 0, 4))),
            ("act", 7, 1),
            ("many", 0, ("act", 0, 0)),
            ("many", 2, ("act", 0, 4)),
        )),
        ("beside", (
            ("beside", (("act", 6, 0), ("act", 9, 9), ("act", 1, 2), ("act", 0, 0))),
            ("act", 5, 1),
            ("times", 2, ("act", 0, 5)),
        )),
    )),
    ("act", 5, 4),
    ("then", (
        ("beside", (
            ("many", 1, ("act", 6, 0)),
            ("beside", (("act", 5, 5), ("act", 0, 5), ("act", 0, 6), ("act", 0, 2))),
        )),
    )),
)))


class Best(unittest.TestCase):
    def look(self, book):
        plan = asked_twice(self, best_plan, book)
        self.assertIsNone(planfault(book, plan), (book, plan))
        self.assertEqual(plan_least(book, plan), least(book), (book, plan))
        return plan

    def test_small_ones_against_all_orders(self):
        for book in chance_books(900, 101, fewest=2, most=9, greatest=6):
            plan = self.look(book)
            self.assertEqual(plan_least(book, plan), plain_least(book), book)
            self.assertTrue(plain_is_order(book, spelled(book, plan)))

    def test_greater_ones(self):
        for book in chance_books(600, 102, deep=5, widest=4, copies=(0, 1, 2, 3, 7)):
            self.look(book)

    def test_wide_deep_and_far_ones(self):
        for book in wide_books() + far_books():
            self.look(book)
            self.look(turned_book(book))
        self.look(nested(DEEP - 1, ACT))
        self.look(nested(DEEP - 1, DOWN, "beside"))

    def test_far_copies_of_whatever(self):
        for book in chance_books(600, 103, deep=4, copies=(0, 1, 2, 3, 10 ** 4, 10 ** 5)):
            self.look(book)

    def test_without_acts(self):
        for book in (NONE, ("beside", ()), ("times", 0, ACT), ("many", 0, ACT), ("many", COPIES, NONE)):
            self.look(book)
            self.assertEqual(least(book), 0)

    def test_of_an_act(self):
        self.assertEqual(best_plan(ACT), ())
        self.assertEqual(purse_paper(ACT), (2, (), ((((2, 5),), 5, ()), ())))


class Papers(unittest.TestCase):
    def test_is_one(self):
        for book in chance_books(200, 104, deep=4) + far_books() + wide_books():
            paper = asked_twice(self, purse_paper, book)
            self.assertEqual(paper[0], least(book))
            self.assertIsNone(planfault(book, paper[1]))
            self.assertEqual(plan_least(book, paper[1]), least(book))
            self.assertEqual(paper[2], forms_paper(book))
            self.assertIs(asked_twice(self, purse_holds, book, paper), True)

    def test_whatever_plan_the_purse_bears(self):
        chance = random.Random(105)
        others = borne = refused = 0
        for book in chance_books(300, 106, fewest=2):
            for _ in range(4):
                plan = chance_plan(chance, book)
                fine = plan_least(book, plan) == least(book)
                told = purse_holds(book, (least(book), plan, forms_paper(book)))
                self.assertIs(told, fine, (book, plan))
                # a purse that bears a plan isn't the least one
                if not fine:
                    self.assertIs(purse_holds(book, (plan_least(book, plan), plan, forms_paper(book))), False)
                borne += fine
                refused += not fine
                others += fine and plan != best_plan(book)
        self.assertGreater(min(others, borne, refused), 50)

    def test_far_plans(self):
        chance = random.Random(107)
        for book in far_books():
            plan = chance_plan(chance, book)
            fine = plan_least(book, plan) == least(book)
            self.assertIs(purse_holds(book, (least(book), plan, forms_paper(book))), fine)
        book = ("beside", (("many", COPIES, ("act", 7, 0)), ACT))
        paper = forms_paper(book)
        plans = ((((), (1,)), ()), (((1, 1),), ((0, 1),))), ((((), (1,)), ()), (((0, 1),), ((1, 1),)))
        self.assertEqual(least(book), 7 * COPIES - 3)
        self.assertIs(purse_holds(book, (7 * COPIES - 3, plans[0], paper)), True)
        self.assertIs(purse_holds(book, (7 * COPIES - 3, plans[1], paper)), False)
        self.assertIs(purse_holds(book, (7 * COPIES - 2, plans[0], paper)), False)

    def test_another_purse_or_paper(self):
        for book in chance_books(60, 108) + [("act", 0, 1), ("act", 1, 0)]:
            purse, plan, paper = purse_paper(book)
            for other in (purse + 1, purse - 1, str(purse), None, (purse,), [purse]):
                self.assertIs(asked_twice(self, purse_holds, book, (other, plan, paper)), False)
            if purse in (0, 1):
                self.assertIs(purse_holds(book, (bool(purse), plan, paper)), False)
            for bad in spoiled(paper):
                self.assertIs(purse_holds(book, (purse, plan, bad)), False)

    def test_spoiled_ones(self):
        for book in chance_books(25, 109, fewest=1, deep=2):
            purse, plan, paper = purse_paper(book)
            for bad in spoiled(plan):
                fine = planfault(book, bad) is None and plan_least(book, bad) == purse
                self.assertIs(asked_twice(self, purse_holds, book, (purse, bad, paper)), fine)
            whole = (purse, plan, paper)
            for bad in (list(whole), whole[:2], whole[1:], whole + (None,), (plan, purse, paper), (purse, paper, plan)):
                self.assertIs(asked_twice(self, purse_holds, book, bad), False, (book, bad))

    def test_anything(self):
        for thing in odd_things() + [()]:
            for book in (ACT, NONE, ("times", 3, ACT)):
                purse, plan, paper = purse_paper(book)
                self.assertIs(asked_twice(self, purse_holds, book, thing), False)
                for bad in ((thing, plan, paper), (purse, thing, paper), (purse, plan, thing)):
                    told = asked_twice(self, purse_holds, book, bad)
                    same = repr(bad) == repr((purse, plan, paper))
                    self.assertIs(told, same, bad)

    def test_of_the_book_that_was_slow(self):
        for book in (SLOW, ("times", 1, SLOW[2]), ("many", COPIES // 10, SLOW[2])):
            told = purse_paper(book)
            purse, plan, paper = told
            self.assertIs(asked_twice(self, purse_holds, book, told), True)
            turned = purse_paper(turned_book(book))
            for bad in (
                (purse + 1, plan, paper), (purse - 1, plan, paper), (), None, [purse, plan, paper], list(told), turned,
                (purse, plan, turned[2]), (turned[0], plan, paper) if turned[0] != purse else None, (purse, plan, ()),
                (purse, (), paper), (None, plan, paper), told + (None,), told[:2],
            ):
                self.assertIs(asked_twice(self, purse_holds, book, bad), False)
            self.assertIs(purse_holds(turned_book(book), turned), True)
        self.assertEqual(purse_paper(SLOW)[0], 0)
        self.assertIs(purse_holds(SLOW, (False,) + purse_paper(SLOW)[1:]), False)

    def test_it_takes_few_steps(self):
        """Calls of functions are counted, as these are the same with each run."""
        told = purse_paper(SLOW)
        every = self.calls(SLOW, told)
        self.assertLess(every, 1200)
        for bad in ((told[0] + 1,) + told[1:], (), None, list(told), told[:2], (None,) + told[1:]):
            self.assertLess(self.calls(SLOW, bad), every // 20)

    def calls(self, book, thing):
        """How many calls of the program's functions a look takes."""
        counted = []
        sys.setprofile(lambda frame, event, more: counted.append(event) if event == "call" else None)
        try:
            purse_holds(book, thing)
        finally:
            sys.setprofile(None)
        return len(counted)

    def test_the_plan_of_a_book_that_can_be_spelled(self):
        for book in wide_books():
            if acts_in(book) <= ROW:
                self.assertEqual(len(spelled(book, best_plan(book))), acts_in(book))


if __name__ == "__main__":
    unittest.main()
