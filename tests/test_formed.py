"""[15], [18], [3] (a), (f): the forms of books, and their papers."""

import unittest

from samples import asked_twice, odd_things, spoiled
from worlds import ACT, NONE, chance_books, far_books, inner_books, nested, plain_least, wide_books
from stintpurse.bounds import COPIES, DEEP, MOST
from stintpurse.books import bookfault, gain_of, turned_book
from stintpurse.formed import form, forms_paper, least, paper_holds
from stintpurse.forms import fall, form_of, is_form, least_of, rise, turned_form
from stintpurse.merging import beside_form, many_form, then_form, times_form

NOTHING = ((), 0, ())
DOWN = ("act", 5, 2)
UP_FORM = (((2, 5),), 5, ())
DOWN_FORM = ((), 5, ((5, 2),))


def plain_form(book):
    """The form as the sentence says, copies one by one."""
    forms = tuple(plain_form(part) for part in inner_books(book))
    if book[0] == "act":
        return form_of((book[1:],))
    if book[0] == "then":
        return then_form(forms)
    if book[0] == "beside":
        return beside_form(forms)
    return (then_form if book[0] == "times" else beside_form)(forms * book[1])


class Forms(unittest.TestCase):
    def test_told_ones(self):
        for book, told in (
            (ACT, UP_FORM),
            (DOWN, DOWN_FORM),
            (("act", 4, 4), ((), 4, ())),
            (("act", 0, 0), NOTHING),
            (("act", MOST, 0), ((), MOST, ((MOST, 0),))),
            (NONE, NOTHING),
            (("beside", ()), NOTHING),
            (("then", (ACT,)), UP_FORM),
            (("then", (ACT, DOWN)), (((2, 5),), 5, ((5, 2),))),
            (("then", (DOWN, ACT)), ((), 5, ())),
            (("beside", (DOWN, ACT)), (((2, 5),), 5, ((5, 2),))),
            (("beside", (ACT, ("act", 5, 6), ("act", 7, 9))), (((2, 6), (7, 9)), 9, ())),
            (("times", 0, ACT), NOTHING),
            (("many", 0, ACT), NOTHING),
            (("times", 1, ACT), UP_FORM),
            (("many", 1, DOWN), DOWN_FORM),
            (("times", 3, ACT), (((2, 11),), 11, ())),
            (("many", 3, DOWN), ((), 11, ((11, 2),))),
            (("times", COPIES, ACT), (((2, 3 * COPIES + 2),), 3 * COPIES + 2, ())),
            (("many", COPIES, DOWN), ((), 3 * COPIES + 2, ((3 * COPIES + 2, 2),))),
            (("many", COPIES, NONE), NOTHING),
            (("times", COPIES, ("act", 4, 4)), ((), 4, ())),
            (("times", 2, ("then", (ACT, ("act", 6, 5)))), (((2, 5), (6, 8)), 8, ((6, 5),))),
            (("many", 2, ("then", (ACT, ("act", 6, 5)))), (((2, 8),), 8, ((7, 5),))),
            (
                ("times", COPIES, ("then", (ACT, ("act", 6, 5)))),
                (((2, 5), (6, 2 * COPIES + 4)), 2 * COPIES + 4, ((6, 5),)),
            ),
            (("many", 10 ** 7, ("times", 10 ** 8, ACT)), (((2, 3 * COPIES + 2),), 3 * COPIES + 2, ())),
            (("times", 10 ** 7, ("many", 10 ** 8, DOWN)), ((), 3 * COPIES + 2, ((3 * COPIES + 2, 2),))),
        ):
            self.assertEqual(asked_twice(self, form, book), told, book)
            self.assertEqual(asked_twice(self, least, book), told[1] - rise(told), book)

    def test_of_their_parts_one_copy_after_the_other(self):
        for book in chance_books(400, 61, most=10 ** 4, deep=4):
            told = asked_twice(self, form, book)
            self.assertEqual(told, plain_form(book), book)
            self.assertIs(is_form(told), True)
            self.assertEqual(rise(told) - fall(told), gain_of(book))

    def test_far_copies(self):
        for book in far_books():
            self.assertIsNone(bookfault(book), book)
            told = asked_twice(self, form, book)
            self.assertIs(is_form(told), True)
            self.assertEqual(rise(told) - fall(told), gain_of(book), book)
        for inner in chance_books(80, 62):
            for k in (1, 2, 5, COPIES - 1):
                one = form(inner)
                self.assertEqual(form(("times", k, inner)), times_form(k, one))
                self.assertEqual(form(("many", k, inner)), many_form(k, one))
                self.assertEqual(form(("then", (("times", k, inner), inner))), form(("times", k + 1, inner)))
                self.assertEqual(form(("beside", (("many", k, inner), inner))), form(("many", k + 1, inner)))

    def test_copies_of_copies(self):
        for inner in chance_books(80, 63, deep=2):
            for word in ("times", "many"):
                for k, other in ((2, 3), (0, 4), (10 ** 7, 10 ** 8)):
                    self.assertEqual(form((word, k, (word, other, inner))), form((word, k * other, inner)), inner)

    def test_least_is_that_of_all_orders(self):
        for book in chance_books(1500, 64, fewest=2, most=9, greatest=6):
            self.assertEqual(asked_twice(self, least, book), plain_least(book), book)
        for book in chance_books(60, 65, fewest=10, most=12, deep=4):
            self.assertEqual(least(book), plain_least(book), book)

    def test_least_of_what_stands_one_behind_another_and_beside(self):
        self.assertEqual(least(("then", (DOWN, ACT))), 5)
        self.assertEqual(least(("beside", (DOWN, ACT))), 2)
        self.assertEqual(least(("times", 2, ("then", (ACT, ("act", 6, 5))))), 3)
        self.assertEqual(least(("many", 2, ("then", (ACT, ("act", 6, 5))))), 2)
        self.assertEqual(least(("times", COPIES, DOWN)), 3 * COPIES + 2)

    def test_turned_about(self):
        for book in chance_books(300, 66, deep=4, copies=(0, 1, 2, 3, COPIES // 10 ** 12)) + far_books() + wide_books():
            self.assertEqual(form(turned_book(book)), turned_form(form(book)), book)
            self.assertEqual(least(turned_book(book)), least(book) + gain_of(book))

    def test_wide_and_deep_ones(self):
        for book in wide_books() + [nested(DEEP - 1, ACT), nested(DEEP - 1, DOWN, "beside")]:
            self.assertIsNone(bookfault(book))
            self.assertIs(is_form(asked_twice(self, form, book)), True)
        self.assertEqual(form(nested(DEEP - 1, ACT)), UP_FORM)
        # rests and companies may be deeper, and have greater numbers
        self.assertEqual(form(nested(2 * DEEP, ACT, "beside")), UP_FORM)
        self.assertEqual(form(("act", 10 ** 40, 3)), ((), 10 ** 40, ((10 ** 40, 3),)))


class Papers(unittest.TestCase):
    def look_through(self, book, paper):
        self.assertEqual(len(paper), 2)
        self.assertEqual(paper[0], form(book))
        self.assertEqual(len(paper[1]), len(inner_books(book)))
        for part, inner in zip(inner_books(book), paper[1]):
            self.look_through(part, inner)

    def test_told_ones(self):
        self.assertEqual(asked_twice(self, forms_paper, ACT), (UP_FORM, ()))
        self.assertEqual(asked_twice(self, forms_paper, NONE), (NOTHING, ()))
        self.assertEqual(
            asked_twice(self, forms_paper, ("beside", (DOWN, ("times", 3, ACT)))),
            ((((2, 11),), 11, ((5, 2),)), ((DOWN_FORM, ()), ((((2, 11),), 11, ()), ((UP_FORM, ()),)))),
        )
        self.assertEqual(asked_twice(self, forms_paper, ("many", 0, ACT)), (NOTHING, ((UP_FORM, ()),)))

    def test_part_by_part(self):
        for book in chance_books(200, 67, deep=4) + far_books() + wide_books():
            self.look_through(book, asked_twice(self, forms_paper, book))

    def test_holds_just_of_that_one(self):
        books = [ACT, NONE, ("act", 0, 1), ("many", 0, ACT), ("times", COPIES, ("then", (DOWN, ACT)))]
        for book in books + chance_books(25, 68, deep=3):
            paper = forms_paper(book)
            self.assertIs(asked_twice(self, paper_holds, book, paper), True)
            for bad in spoiled(paper):
                self.assertIs(asked_twice(self, paper_holds, book, bad), False, (book, bad))

    def test_truths_lists_and_dicts(self):
        book = ("act", 0, 1)
        self.assertIs(paper_holds(book, ((((0, 1),), 1, ()), ())), True)
        for thing in (
            ((((0, 1),), True, ()), ()), ((((False, 1),), 1, ()), ()), ((((0, True),), 1, ()), ()),
            [(((0, 1),), 1, ()), ()], ((((0, 1),), 1, ()), []), ([((0, 1),), 1, ()], ()), ((((0, 1),), 1, []), ()),
            (([(0, 1)], 1, ()), ()), ((([0, 1],), 1, ()), ()), ((((0, 1),), 1, {}), ()), ((((0, 1),), 1, ()), None),
            ((((0, 1),), 1, ()), ""), {0: 1}, (((0, 1),), 1, ()),
        ):
            self.assertIs(asked_twice(self, paper_holds, book, thing), False, thing)

    def test_papers_exchanged_left_out_put_in_twice(self):
        book = ("then", (ACT, DOWN, ACT))
        told, papers = forms_paper(book)
        one, other = papers[:2]
        for thing in ((one, one, other), (other, one, one), (one, other), (one, other, one, one), (one, other, other)):
            self.assertIs(paper_holds(book, (told, thing)), False)
        self.assertIs(paper_holds(book, (told, (one, other, one))), True)
        self.assertIs(paper_holds(("then", (ACT, DOWN)), forms_paper(("beside", (DOWN, ACT)))), False)

    def test_anything(self):
        for thing in odd_things() + [()]:
            for book in (ACT, NONE, ("times", 3, ACT), ("beside", (ACT, DOWN))):
                self.assertIs(asked_twice(self, paper_holds, book, thing), False)
                fine = book in (ACT, NONE) and thing == ()
                self.assertIs(asked_twice(self, paper_holds, book, (form(book), thing)), fine)
                self.assertIs(asked_twice(self, paper_holds, book, (thing, ())), False)


if __name__ == "__main__":
    unittest.main()
