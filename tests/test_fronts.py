"""[38]: all standings of a book, and the rows of ways through it."""

import unittest

from journeys import Journey, plain_text
from samples import asked_twice, odd_things
from worlds import ACT, NONE, chance_books, far_books
from stintpurse.books import acts_in, bookfault
from stintpurse.bounds import COPIES, DEEP, FRONTS
from stintpurse.errors import NoNumber, NoPurse, TooMany
from stintpurse.formed import least
from stintpurse.fronts import fronts, row_at, rows_through
from stintpurse.rests import rest
from stintpurse.standings import act_at, begin, gone, is_ended, is_standing, ways

PLUS = ("act", 0, 1)
CROWD = ("many", 2, PLUS)
TOO_GREAT = ("beside", (ACT,) * 11)


def all_rows(book, purse):
    """All rows of ways that the purse bears, in Python's order."""
    rows = []

    def on(standing, held, row):
        if is_ended(book, standing):
            rows.append(row)
        for way in ways(book, standing):
            need, leave = act_at(book, way)
            if need <= held:
                on(gone(book, standing, way), held - need + leave, row + (way,))

    on(begin(book), purse, ())
    return sorted(rows)


class Fronts(unittest.TestCase):
    def refuse(self, book, most):
        with self.assertRaises(TooMany) as caught:
            fronts(book, most=most)
        self.assertEqual(caught.exception.most, most)

    def test_against_the_acts_that_are_done(self):
        for book in chance_books(400, 601, most=7, deep=4):
            journey = Journey(book)
            many = {journey.standing(done): len(done) for done in journey.states()}
            wanted = tuple(sorted(many, key=lambda standing: (many[standing], plain_text(book, standing))))
            self.assertEqual(asked_twice(self, fronts, book), wanted, book)
            self.assertEqual(fronts(book, most=len(wanted)), wanted)
            for most in range(1, len(wanted)):
                self.refuse(book, most)

    def test_of_each_kind(self):
        two = ("then", (ACT, NONE, ACT))
        for book, told in (
            (ACT, (0, 1)), (NONE, ((0, None),)), (two, ((0, 0), (2, 0), (3, None))), (("beside", ()), ((),)),
            (("beside", (ACT, ACT)), ((0, 0), (0, 1), (1, 0), (1, 1))), (("times", 2, ACT), ((0, 0), (1, 0), (2, None))),
            (CROWD, (((2, 0),), ((1, 0), (1, 1)), ((2, 1),))), (("many", 0, ACT), ((),)), (("times", 0, ACT), ((0, None),)),
            (("many", 3, NONE), (((3, (0, None)),),)),
        ):
            self.assertEqual(asked_twice(self, fronts, book), told)

    def test_those_of_as_many_acts_by_their_texts(self):
        told = fronts(("many", 12, ACT))
        self.assertEqual(told, tuple(((12 - done, 0), (done, 1)) if 0 < done < 12 else ((12, done // 12),) for done in range(13)))
        lines = fronts(("beside", (("times", 12, ACT), ("times", 12, ACT))))
        twelve = [standing for standing in lines if sum(part[0] for part in standing) == 12]
        self.assertEqual([part[0][0] for part in twelve], [0, 10, 11, 12, 1, 2, 3, 4, 5, 6, 7, 8, 9])

    def test_copies_by_the_texts_of_how_they_stand(self):
        for inner in (("times", 12, ACT), ("many", 12, ACT)):
            told = fronts(("many", 2, inner))
            self.assertEqual(len(told), 13 * 14 // 2)
            for standing in told:
                self.assertTrue(is_standing(("many", 2, inner), standing), standing)

    def test_parts_without_copies_count_no_acts(self):
        for empty in (("many", 0, ACT), ("times", 0, ACT), NONE, ("beside", ()), ("many", 2, NONE)):
            book = ("beside", (("then", (ACT, empty, ACT)), ("then", (ACT, ACT, ACT))))
            journey = Journey(book)
            many = {journey.standing(done): len(done) for done in journey.states()}
            wanted = tuple(sorted(many, key=lambda standing: (many[standing], plain_text(book, standing))))
            self.assertEqual(fronts(book), wanted)

    def test_as_many_as_there_may_be(self):
        for book in (("times", FRONTS - 1, ACT), ("many", FRONTS - 1, ACT), ("many", 1, ("times", FRONTS - 1, ACT))):
            self.assertEqual(len(fronts(book)), FRONTS)
            self.assertEqual(len(fronts(book, most=FRONTS)), FRONTS)
            self.refuse(book, FRONTS - 1)
        for book in (("times", FRONTS, ACT), ("many", FRONTS, ACT), TOO_GREAT, ("many", 2, ("times", 62, ACT))):
            with self.assertRaises(TooMany) as caught:
                fronts(book)
            self.assertEqual(caught.exception.most, FRONTS)
            for most in (1, 2, FRONTS):
                self.refuse(book, most)
        self.assertEqual(len(fronts(("many", 2, ("times", 61, ACT)))), 62 * 63 // 2)
        self.assertEqual(fronts(NONE, most=1), ((0, None),))

    def test_far_copies(self):
        for book in far_books():
            if acts_in(book) > 0:
                self.refuse(book, FRONTS)
                self.refuse(book, 1)
                for function, more in ((rows_through, (0,)), (row_at, (0, 0))):
                    with self.assertRaises(TooMany):
                        function(book, *more)
            else:
                self.assertEqual(fronts(book, most=1), (begin(book),))
                self.assertEqual(rows_through(book, 0), 1)
                self.assertEqual(row_at(book, 0, 0), ())
        for word in ("times", "many"):
            self.assertEqual(len(fronts((word, 0, (word, COPIES, ACT)))), 1)
            self.assertEqual(len(fronts(("beside", ((word, COPIES, NONE), ACT)))), 2)

    def test_of_rests(self):
        book = ("times", 3, ("then", (ACT, ACT)))
        for _ in range(DEEP - 2):
            book = ("times", 2, book)
        with self.assertRaises(TooMany):
            fronts(book)
        standing = begin(book)
        for _ in range(acts_in(book) - 1990):
            standing = gone(book, standing, ways(book, standing)[0])
        left = rest(book, standing)
        self.assertIsNotNone(bookfault(left))
        self.assertEqual(len(fronts(left)), 1991)
        self.assertEqual(rows_through(left, 10 ** 9), 1)


class Rows(unittest.TestCase):
    def test_the_one_that_is_told(self):
        self.assertEqual(rows_through(CROWD, 0), 1)
        self.assertEqual(row_at(CROWD, 0, 0), ((0,), (0,)))

    def test_against_going_through_all_rows(self):
        some = none = 0
        for book in chance_books(250, 602, most=6, greatest=6):
            need = least(book)
            for purse in {0, max(0, need - 1), need, need + 1, 40}:
                rows = all_rows(book, purse)
                self.assertEqual(asked_twice(self, rows_through, book, purse), len(rows), (book, purse))
                self.assertEqual(len(rows) > 0, purse >= need)
                for number in {0, 1, len(rows) // 2, len(rows) - 2, len(rows) - 1}:
                    if 0 <= number < len(rows):
                        self.assertEqual(asked_twice(self, row_at, book, purse, number), rows[number])
                        some += 1
                with self.assertRaises(NoNumber):
                    row_at(book, purse, len(rows))
                none += not rows
        self.assertGreater(min(some, none), 50)

    def test_all_numbers(self):
        book = ("beside", (("times", 2, ("act", 3, 1)), ("many", 2, ("then", (("act", 1, 4), PLUS))), ACT))
        for purse in (3, 4, 50):
            rows = all_rows(book, purse)
            self.assertGreater(len(rows), 20)
            self.assertEqual([row_at(book, purse, number) for number in range(len(rows))], rows)

    def test_without_acts(self):
        for book in (NONE, ("beside", ()), ("many", 3, NONE), ("times", 0, ACT)):
            self.assertEqual(rows_through(book, 0), 1)
            self.assertEqual(row_at(book, 0, 0), ())

    def test_many_rows(self):
        book = ("beside", (PLUS,) * 10)
        self.assertEqual(rows_through(book, 0), 3628800)
        self.assertEqual(row_at(book, 0, 3628799), tuple((number,) for number in range(9, -1, -1)))
        self.assertEqual(rows_through(("times", FRONTS - 1, PLUS), 0), 1)
        self.assertEqual(len(row_at(("times", FRONTS - 1, PLUS), 0, 0)), FRONTS - 1)

    def test_refused_in_their_order(self):
        for thing in odd_things() + [-1, ()]:
            is_purse = thing.__class__ is int and thing >= 0
            with self.assertRaises(TooMany) as caught:
                rows_through(TOO_GREAT, thing)
            self.assertEqual(caught.exception.most, FRONTS)
            for number in (0, None, -1, thing):
                with self.assertRaises(TooMany) as caught:
                    row_at(TOO_GREAT, thing, number)
                self.assertEqual(caught.exception.most, FRONTS)
                if not is_purse:
                    with self.assertRaises(NoPurse) as caught:
                        row_at(CROWD, thing, number)
                    self.assertIs(caught.exception.purse, thing)
            if not is_purse:
                with self.assertRaises(NoPurse) as caught:
                    rows_through(CROWD, thing)
                self.assertIs(caught.exception.purse, thing)

    def test_no_number(self):
        for thing in odd_things() + [-1, 2, (), 0.0]:
            if repr(thing) == "0":
                continue
            with self.assertRaises(NoNumber) as caught:
                row_at(CROWD, 0, thing)
            self.assertIs(caught.exception.number, thing)
        with self.assertRaises(NoNumber):
            row_at(ACT, 1, 0)


if __name__ == "__main__":
    unittest.main()
