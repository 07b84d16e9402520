"""[28], [29], [3] (b): what parts two books, and which one serves for the other."""

import random
import unittest

from samples import asked_twice, chance_form, odd_things, spoiled
from worlds import (
    ACT, NONE, act_count, chance_act, chance_books, chance_company, far_books, plain_least, row_book, wide_books,
)
from stintpurse.bounds import COPIES, MOST
from stintpurse.books import turned_book
from stintpurse.companies import least_beside, put
from stintpurse.formed import form, least
from stintpurse.partings import outdone, parting, parting_holds, serves

DOWN = ("act", 5, 2)
EVEN = ("act", 4, 4)


def needs(book, test, purse=least):
    """What a book needs at a test."""
    return purse(book) if test == () else purse(("beside", (book, ("act",) + test)))


def is_test(thing):
    if thing.__class__ is not tuple:
        return False
    return thing == () or len(thing) == 2 and all(number.__class__ is int and number >= 0 for number in thing)


def many_tests(chance, count=40):
    """Tests of all sorts."""
    tests = [()]
    for _ in range(count):
        low, more = chance.randint(0, 12), chance.choice((0, 1, 2, 3, 5, 9, 40, 10 ** 20))
        tests += [(low, low + more), (low + more, low), (chance.randint(0, 40), chance.randint(0, 40))]
    return tests


def pairs_of_books(seed, count=250, **how):
    books = chance_books(2 * count, seed, **how)
    return list(zip(books[:count], books[count:]))


class Parting(unittest.TestCase):
    def look(self, one, other):
        told = asked_twice(self, parting, one, other)
        self.assertEqual(told is None, form(one) == form(other), (one, other))
        if told is not None:
            test, this, that = told
            self.assertTrue(is_test(test))
            self.assertEqual((this, that), (needs(one, test), needs(other, test)))
            self.assertNotEqual(this, that)
            self.assertIs(asked_twice(self, parting_holds, one, other, told), True)
            self.assertIs(asked_twice(self, parting_holds, other, one, (test, that, this)), True)
        return told

    def test_told_ones(self):
        self.assertIsNone(self.look(ACT, ("then", (ACT,))))
        self.assertIsNone(self.look(("many", 3, ACT), ("times", 3, ACT)))
        self.assertIsNone(self.look(("times", COPIES, NONE), ("beside", ())))
        self.assertIsNotNone(self.look(ACT, DOWN))
        self.assertIsNotNone(self.look(ACT, NONE))

    def test_none_just_where_the_forms_are_the_same(self):
        found = [self.look(one, other) is None for one, other in pairs_of_books(181, 500, deep=2, greatest=3)]
        self.assertGreater(min(found.count(True), found.count(False)), 10)
        for book in chance_books(100, 182, deep=3):
            self.assertIsNone(self.look(book, book))
            self.assertIsNone(self.look(book, ("beside", (NONE, book))))

    def test_small_steps_apart(self):
        for book in chance_books(120, 183, fewest=1, deep=3):
            up, top, down = form(book)
            row = row_book(book)
            self.assertIsNone(self.look(book, row))
            for at, act in enumerate(row[1]):
                for need, leave in ((0, 1), (1, 0), (1, 1)):
                    new = ("act", act[1] + need, act[2] + leave)
                    self.look(book, ("then", row[1][:at] + (new,) + row[1][at + 1:]))

    def test_all_orders_have_the_numbers(self):
        for one, other in pairs_of_books(184, 200, fewest=1, most=6, greatest=6):
            told = parting(one, other)
            if told is not None:
                self.assertEqual(needs(one, told[0], plain_least), told[1])
                self.assertEqual(needs(other, told[0], plain_least), told[2])

    def test_far_copies_whose_ups_or_downs_alone_are_unlike(self):
        loss = ("many", COPIES, ("act", MOST, 0))
        for one, other in (
            (("many", COPIES, ("act", 1, 3)), ("many", COPIES, ("act", 2, 4))),
            (("times", COPIES, ("act", 1, 3)), ("then", (("act", 1, 3), ("many", COPIES - 1, ("act", 4, 6))))),
            (("many", COPIES, ACT), ("many", COPIES - 1, ACT)),
        ):
            one, other = ("then", (one, loss)), ("then", (other, loss))
            self.assertEqual(form(one)[1:], form(other)[1:])
            self.assertNotEqual(form(one)[0], form(other)[0])
            for these in ((one, other), (turned_book(one), turned_book(other))):
                self.assertIsNotNone(self.look(*these))
                self.assertIsNotNone(self.look(*these[::-1]))

    def test_far_copies(self):
        for one, other in (
            (("many", COPIES, ACT), ("many", COPIES - 1, ACT)),
            (("many", COPIES, DOWN), ("times", COPIES - 1, DOWN)),
            (("times", COPIES, ("then", (ACT, ("act", 6, 5)))), ("many", COPIES, ("then", (ACT, ("act", 6, 5))))),
            (("times", COPIES, ("then", (("act", 5, 6), DOWN))), ("many", COPIES, ("then", (("act", 5, 6), DOWN)))),
        ):
            self.assertIsNotNone(self.look(one, other))
            self.assertIsNotNone(self.look(other, one))
        books = far_books()
        for one, other in zip(books, books[1:] + books[:1]):
            self.look(one, other)

    def test_ups_downs_or_top_alone(self):
        base = ("then", (("act", 1, 3), ("act", 4, 9), ("act", 20, 20), ("act", 9, 6), ("act", 3, 1)))
        for at, act in (
            (0, ("act", 0, 2)), (0, ("act", 2, 3)), (1, ("act", 5, 10)), (2, ("act", 21, 21)), (2, ("act", 19, 19)),
            (3, ("act", 10, 7)), (3, ("act", 8, 5)), (4, ("act", 2, 0)), (4, ("act", 4, 2)),
        ):
            self.assertIsNotNone(self.look(base, ("then", base[1][:at] + (act,) + base[1][at + 1:])))
        # as much in all, told in other steps
        self.assertIsNotNone(self.look(
            ("then", (("act", 1, 2), ("act", 4, 6), EVEN)), ("then", (("act", 1, 3), ("act", 5, 6), EVEN))
        ))

    def test_wide_ones(self):
        books = wide_books()
        for one in books:
            for other in books:
                self.look(one, other)


class Holds(unittest.TestCase):
    def test_whoever_made_it(self):
        chance = random.Random(185)
        good = bad = 0
        for one, other in pairs_of_books(186, 150, greatest=5):
            for test in many_tests(chance, 6):
                this, that = needs(one, test), needs(other, test)
                fine = this != that
                self.assertIs(asked_twice(self, parting_holds, one, other, (test, this, that)), fine)
                for wrong in ((test, this + 1, that), (test, this, that - 1), (test, that, this + (not fine))):
                    self.assertIs(parting_holds(one, other, wrong), False)
                good += fine
                bad += not fine
        self.assertGreater(min(good, bad), 100)

    def test_spoiled_ones(self):
        for one, other in pairs_of_books(187, 60, deep=2):
            told = parting(one, other)
            if told is None:
                continue
            for thing in spoiled(told):
                fine = thing.__class__ is tuple and len(thing) == 3 and is_test(thing[0])
                if fine:
                    these = (needs(one, thing[0]), needs(other, thing[0]))
                    fine = repr(these) == repr(thing[1:]) and these[0] != these[1]
                self.assertIs(asked_twice(self, parting_holds, one, other, thing), fine, thing)

    def test_anything(self):
        nothing, one = NONE, ("act", 1, 1)
        self.assertIs(parting_holds(nothing, one, ((), 0, 1)), True)
        self.assertIs(parting_holds(nothing, one, ((0, 0), 0, 1)), True)
        for thing in odd_things() + [
            (), ((),),
            ((), False, 1), ((), 0, True), ([], 0, 1), ((0, False), 0, 1), ((0,), 0, 1), ((0, 0, 0), 0, 1), [(), 0, 1],
            ((), 0), ((), 0, 1, 1), ((), "0", 1), ((), None, 1), (None, 0, 1), ((-1, 0), 0, 1), ((0, -1), 0, 1),
            ((), 1, 0),
            ("", 0, 1), ({}, 0, 1), ((None, None), 0, 1), (("0", "0"), 0, 1), ([0, 0], 0, 1), ((), (0,), 1),
            ((), 0, [1]),
            (((0, 0),), 0, 1), ((9, 9), 9, 9), ((), 0, 0),
        ]:
            self.assertIs(asked_twice(self, parting_holds, nothing, one, thing), False, thing)
            for bad in ((thing, 0, 1), ((), thing, 1), ((), 0, thing)):
                fine = repr(bad) in (repr(((), 0, 1)), repr(((0, 0), 0, 1)))
                self.assertIs(asked_twice(self, parting_holds, nothing, one, bad), fine, bad)
        self.assertIs(parting_holds(one, one, ((), 1, 1)), False)

    def test_far_numbers(self):
        test = (10 ** 59, 10 ** 59 + 1)
        told = (test, least_beside(ACT, test), least_beside(DOWN, test))
        self.assertIs(parting_holds(ACT, DOWN, told), told[1] != told[2])


class Serving(unittest.TestCase):
    def look(self, one, other):
        told = asked_twice(self, serves, one, other)
        worse = asked_twice(self, outdone, one, other)
        self.assertIs(told, worse is None)
        if worse is not None:
            self.assertGreater(worse[1], worse[2])
            self.assertEqual(worse[1:], (needs(one, worse[0]), needs(other, worse[0])))
            self.assertIs(parting_holds(one, other, worse), True)
        return told

    def test_told_ones(self):
        for one, other, told in (
            (NONE, EVEN, True), (EVEN, NONE, False), (ACT, ("act", 3, 6), True), (("act", 3, 6), ACT, False),
            (ACT, ("act", 2, 4), True), (("act", 2, 4), ACT, False), (DOWN, ("act", 6, 2), True), (DOWN, ACT, False),
            (("many", 3, ACT), ("times", 3, ACT), True), (("times", 3, ACT), ("many", 3, ACT), True),
            (("beside", (ACT, DOWN)), ("then", (ACT, DOWN)), True),
            (("beside", (ACT, DOWN)), ("then", (DOWN, ACT)), True),
            (("then", (DOWN, ACT)), ("beside", (ACT, DOWN)), False),
            (("many", COPIES, ACT), ("many", COPIES - 1, ACT), True),
            (("many", COPIES - 1, ACT), ("many", COPIES, ACT), False), (("many", COPIES, DOWN), NONE, False),
            (("many", COPIES - 1, DOWN), ("many", COPIES, DOWN), True), (ACT, NONE, False),
            # neither serves for the other one
            (("act", 1, 2), ("act", 4, 9), False), (("act", 4, 9), ("act", 1, 2), False),
            # one that needs far less alone doesn't come as high, or ends lower
            (NONE, ("then", (("act", 0, 1), ("act", 10, 10))), False), (NONE, ("then", (EVEN, ("act", 3, 2))), True),
            (("act", 2, 1), ("then", (("act", 9, 9), ("act", 3, 2))), True),
            (("act", 3, 1), ("then", (("act", 9, 9), ("act", 3, 2))), False),
            (("act", 3, 1), ("then", (("act", 9, 9), ("act", 9, 7))), True),
        ):
            self.assertIs(self.look(one, other), told, (one, other))

    def test_against_many_tests_and_companies(self):
        chance = random.Random(191)
        found = []
        for one, other in pairs_of_books(192, 250, deep=2, greatest=4):
            told = self.look(one, other)
            found.append(told)
            if told:
                for test in many_tests(chance):
                    self.assertLessEqual(needs(one, test), needs(other, test), (one, other, test))
                for _ in range(20):
                    company = chance_company(chance)
                    made = put(company, one), put(company, other)
                    self.assertLessEqual(least(made[0]), least(made[1]), (one, other, company))
        self.assertGreater(min(found.count(True), found.count(False)), 40)

    def test_rows_of_forms_of_all_heights(self):
        chance = random.Random(200)
        shapes = [chance_form(chance, 2, 2) for _ in range(60)] + [chance_form(chance, 1, 2) for _ in range(60)]
        books = [
            ("then", tuple(("act",) + pair for pair in up + ((top + chance.choice((0, 0, 9, 30)),) * 2,) + down))
            for up, top, down in shapes
        ]
        tests = many_tests(chance, 10) + [(low, low + 99) for low in range(20)] + [(low + 99, low) for low in range(20)]
        asked = {book: [needs(book, test) for test in tests] for book in books}
        found = []
        for one in books[:60]:
            for other in books[60:]:
                told = self.look(one, other)
                found.append(told)
                self.assertIs(told, all(this <= that for this, that in zip(asked[one], asked[other])), (one, other))
        self.assertGreater(min(found.count(True), found.count(False)), 100)

    def test_against_all_orders_in_companies(self):
        chance = random.Random(193)
        for one, other in pairs_of_books(194, 120, fewest=1, most=3, deep=2, greatest=4):
            if serves(one, other):
                company = chance_company(chance, 2)
                made = put(company, one), put(company, other)
                if max(act_count(made[0]), act_count(made[1])) <= 9:
                    self.assertLessEqual(plain_least(made[0]), plain_least(made[1]))
            else:
                test, this, that = outdone(one, other)
                self.assertEqual((needs(one, test, plain_least), needs(other, test, plain_least)), (this, that))

    def test_each_for_itself_and_both_where_the_forms_are_the_same(self):
        for book in chance_books(100, 195) + far_books() + wide_books():
            self.assertIs(self.look(book, book), True)
        for one, other in pairs_of_books(196, 400, deep=2, greatest=3):
            both = self.look(one, other) and self.look(other, one)
            self.assertIs(both, form(one) == form(other))

    def test_of_three_in_a_row(self):
        books = chance_books(40, 197, deep=2, greatest=4)
        table = {(one, other): serves(one, other) for one in books for other in books}
        rows = 0
        for one in books:
            for other in books:
                for third in books:
                    if table[one, other] and table[other, third]:
                        self.assertIs(table[one, third], True, (one, other, third))
                        rows += 1
        self.assertGreater(rows, 100)

    def test_a_woven_one_serves_for_one_behind_another(self):
        for one, other in pairs_of_books(198, 100, deep=2):
            self.assertIs(self.look(("beside", (one, other)), ("then", (one, other))), True)
        chance = random.Random(199)
        for _ in range(50):
            act = chance_act(chance)
            self.assertIs(self.look(("many", 7, act), ("times", 7, act)), True)


if __name__ == "__main__":
    unittest.main()
