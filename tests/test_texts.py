"""[42]: texts of books and of forms, there and back."""

import unittest

from samples import asked_twice, chance_forms, is_told, long_form, odd_things
from worlds import ACT, NONE, chance_books, far_books, nested, wide_books
from stintpurse.bounds import BOOKS, COPIES, DEEP, MOST
from stintpurse.books import bookfault
from stintpurse.errors import BadBook, NoText
from stintpurse.formed import form
from stintpurse.forms import is_form
from stintpurse.texts import book_text, form_text, read_book, read_form

PLAIN = (
    (ACT, "2/5"), (("then", (ACT, ("act", 4, 4))), "(2/5;4/4)"), (("beside", (ACT, ("act", 4, 4))), "(2/5|4/4)"),
    (("then", (ACT,)), "(2/5;)"), (("beside", (ACT,)), "(2/5|)"), (NONE, "(;)"), (("beside", ()), "(|)"),
    (("times", 3, ("beside", (ACT, ("many", 4, ("act", 0, 1))))), "3*(2/5|4&0/1)"), (("many", 0, ACT), "0&2/5"),
    (("times", 0, NONE), "0*(;)"), (("act", 0, MOST), "0/1000000000000"), (("times", 2, ("many", 3, ACT)), "2*3&2/5"),
    (("then", (NONE, ("beside", (NONE,)))), "((;);((;)|))"), (("many", COPIES, ACT), "1000000000000000&2/5"),
)
SIGNS = "0123456789/;|*&()"


def can_begin(text):
    """Whether some text of a book begins so: it is filled up, in all ways that could fit, and looked at plainly."""
    return any(is_book_text(text + tail) for tail in tails(text))


def tails(text):
    """What could make a text of a book whole: something that ends the last one, then all brackets closed."""
    found = []
    for ending in ("", "/1", "1/1", "1", ")", ";)", "|)", ";1/1)", "|1/1)", "1/1;)"):
        opened = []
        seen = text + ending
        separators = []
        for sign in seen:
            if sign == "(":
                opened.append("")
            elif sign == ")" and opened:
                opened.pop()
            elif sign in ";|" and opened:
                opened[-1] += sign
        for signs in reversed(opened):
            sign = signs[0] if signs else ";"
            separators.append((sign if not signs else "") + ")")
        found.append(ending + "".join(separators))
        found.append(ending + "".join((";1/1" if not signs else "") + ")" for signs in reversed(opened)))
    return found


def is_book_text(text):
    """Whether a text is one of a book, by what the sentences tell of each kind, nothing left over."""
    return parse(text, 0) == len(text)


def number_end(text, at):
    """Where a number that begins at a place ends, None where none does."""
    end = at
    while end < len(text) and text[end] in "0123456789":
        end += 1
    return None if end == at or (text[at] == "0" and end > at + 1) else end


def parse(text, at):
    """Where the book that begins at a place ends, None where none does."""
    if text[at:at + 1] == "(":
        for sign in ";|":
            if text[at + 1:at + 3] == sign + ")":
                return at + 3
        end = parse(text, at + 1)
        if end is None or text[end:end + 1] not in (";", "|"):
            return None
        sign = text[end]
        if text[end + 1:end + 2] == ")":
            return end + 2
        while text[end:end + 1] == sign:
            end = parse(text, end + 1)
            if end is None:
                return None
        return end + 1 if text[end:end + 1] == ")" else None
    end = number_end(text, at)
    if end is None:
        return None
    if text[end:end + 1] in ("*", "&"):
        return parse(text, end + 1)
    return number_end(text, end + 1) if text[end:end + 1] == "/" else None


class Written(unittest.TestCase):
    def test_of_each_kind(self):
        for book, text in PLAIN:
            self.assertEqual(asked_twice(self, book_text, book), text)
            self.assertEqual(asked_twice(self, read_book, text), book)

    def test_there_and_back(self):
        for book in chance_books(500, 701, deep=5, copies=(0, 1, 9, 10, 123)) + far_books() + wide_books():
            text = book_text(book)
            self.assertEqual(asked_twice(self, read_book, text), book)
            self.assertTrue(is_book_text(text))

    def test_no_two_books_have_one_text(self):
        books = set(chance_books(500, 702, deep=2, widest=2, copies=(0, 1, 2), greatest=1))
        self.assertEqual(len({book_text(book) for book in books}), len(books))


class Read(unittest.TestCase):
    def refuse(self, thing, at):
        with self.assertRaises(NoText, msg=repr(thing)[:80]) as caught:
            read_book(thing)
        self.assertEqual(repr(caught.exception.at), repr(at), repr(thing)[:80])

    def test_those_that_are_told(self):
        for text, at in (("02/5", 1), ("(2/5)", 4), ("(2/5;4/4;)", 9), ("2/", 2)):
            self.refuse(text, at)

    def test_other_ones(self):
        for text, at in (
            ("", 0), (" ", 0), ("2", 1), ("/", 0), ("2/5 ", 3), (" 2/5", 0), ("2/5\n", 3), ("\n2/5", 0), ("2/5/1", 3),
            ("2/05", 3), ("00/1", 1), ("2/5;", 3), ("2/5;4/4", 3), ("(", 1), (")", 0), ("(;", 2), ("(;;)", 2), ("()", 1),
            ("(;2/5)", 2), ("(2/5;;)", 5), ("(2/5;|)", 5), ("(2/5;4/4|1/1)", 8), ("(2/5|4/4;1/1)", 8), ("(2/5;4/4", 8),
            ("(2/5;4/4))", 9), ("(2/5,4/4)", 4), ("3*", 2), ("3*3", 3), ("*2/5", 0), ("3**2/5", 2), ("03*2/5", 1),
            ("3*&2/5", 2), ("3&-1/5", 2), ("-2/5", 0), ("+2/5", 0), ("2.0/5", 1), ("2/5x", 3), ("x", 0), ("(2/5;4/4;;", 9),
            ("((2/5;);", 8), ("((2/5;)", 7), ("3&(2/5;4&)", 9), ("1_0/1", 1), ("act", 0), ("3 *2/5", 1), ("(2/5; 4/4)", 5),
        ):
            self.refuse(text, at)

    def test_none_of_what_is_no_text(self):
        for thing in odd_things() + [(), b"2/5", ["2/5"], ("act", 2, 5)]:
            if not isinstance(thing, str):
                self.refuse(thing, None)

    def test_each_sign_put_in_left_out_put_otherwise(self):
        refused = 0
        for text in [text for _, text in PLAIN] + [book_text(book) for book in chance_books(12, 703, deep=2)]:
            if len(text) > 40:
                continue
            for at in range(len(text) + 1):
                others = [text[:at] + text[at + 1:], text[:at]]
                others += [text[:at] + sign + text[at:] for sign in SIGNS + " x\n"]
                others += [text[:at] + sign + text[at + 1:] for sign in SIGNS]
                for other in others:
                    refused += self.look(other)
        self.assertGreater(refused, 5000)

    def look(self, text):
        """Whether a text is refused; it has to be just where the plain look refuses it, and just there."""
        try:
            book = read_book(text)
        except NoText as no:
            self.assertFalse(is_book_text(text), text)
            self.assertTrue(can_begin(text[:no.at]), (text, no.at))
            if no.at < len(text):
                self.assertFalse(can_begin(text[:no.at + 1]), (text, no.at))
            return True
        except BadBook:
            self.assertTrue(is_book_text(text), text)
            return False
        self.assertTrue(is_book_text(text), text)
        self.assertIsNone(bookfault(book))
        self.assertTrue(is_told(book))
        self.assertEqual(book_text(book), text)
        return False

    def test_hundreds_within_one_another(self):
        for many in (13, 400, 1400):
            for opening, closing in (("(", ";)"), ("(", "|1/1)"), ("3*", ""), ("1&", "")):
                text = opening * many + "2/5" + closing * many
                with self.assertRaises(BadBook) as caught:
                    read_book(text)
                place = (0,) * (DEEP if opening != "3*" else min(DEEP, 31))
                self.assertEqual((caught.exception.place, caught.exception.why), (place, "deep"))
                self.refuse(opening * many, len(opening) * many)
                self.refuse(opening * many + "2/5" + closing * many + ")", len(text))
                if closing:
                    self.refuse(text[:-1], len(text) - 1)
                    self.refuse(opening * many + "2/5)", len(opening) * many + 3)
        self.refuse("(3*" * 500 + "2/5" + ";)" * 499, 500 * 3 + 3 + 499 * 2)

    def test_then_no_book(self):
        for text, place, why in (
            ("1000000000001/1", (), "need"), ("1/1000000000001", (), "leave"), ("(1/1;1000000000001/1)", (1,), "need"),
            ("1000000000000001*1/1", (), "many"), ("10*1000000000000000&1/1", (0,), "copies"),
            ("9" * 2990 + "/1", (), "need"), ("1/" + "9" * 2990, (), "leave"), ("9" * 5000 + "&1/1", (), "many"),
            ("(" + ";".join(["1/1"] * BOOKS) + ")", (), "size"), (book_text(nested(DEEP, ACT)), (0,) * DEEP, "deep"),
            ("(" * 20 + "1/1" + ";)" * 20, (0,) * DEEP, "deep"),
        ):
            with self.assertRaises(BadBook) as caught:
                read_book(text)
            self.assertEqual((caught.exception.place, caught.exception.why), (place, why))
        self.refuse("1000000000001/1)", 15)
        self.assertEqual(read_book("(" + ";".join(["1/1"] * (BOOKS - 1)) + ")"), ("then", (("act", 1, 1),) * (BOOKS - 1)))


class Forms(unittest.TestCase):
    def refuse(self, thing):
        with self.assertRaises(NoText, msg=repr(thing)[:80]) as caught:
            read_form(thing)
        self.assertIsNone(caught.exception.at)

    def test_of_each_kind(self):
        for shape, text in (
            ((((2, 5),), 6, ((6, 1),)), "2/5 ^6 6/1"), (((), 0, ()), "^0"), ((((0, 1), (2, 4)), 4, ()), "0/1 2/4 ^4"),
            (((), 10, ((9, 5), (3, 0))), "^10 9/5 3/0"),
        ):
            self.assertEqual(asked_twice(self, form_text, shape), text)
            self.assertEqual(asked_twice(self, read_form, text), shape)

    def test_there_and_back(self):
        shapes = chance_forms(300, 704) + [long_form(300)] + [form(book) for book in far_books() + wide_books()]
        for shape in shapes:
            self.assertEqual(asked_twice(self, read_form, asked_twice(self, form_text, shape)), shape)

    def test_anything_else(self):
        for thing in odd_things() + [(), ((), 0, ()), b"^0", ["^0"], form(ACT)]:
            self.refuse(thing)
        for text in (
            "", " ", "^", "0", "2/5", "^0 ", " ^0", "^0\n", "\n^0", "^00", "^01", "02/5 ^5", "2/05 ^5", "2/5  ^5", "2/5\n^5",
            "2/5 ^5 ", " 2/5 ^5", "2/5 ^4", "^4 5/1", "5/2 ^6", "^6 2/5", "2/5 3/6 ^7", "^7 5/2 3/1", "^+1", "^-1", "+2/5 ^5",
            "-2/5 ^5", "2/+5 ^5", "2/5 5", "2/5 ^5 ^5", "2/5/6 ^6", "2 5 ^5", "/5 ^5", "2/ ^5", "2/5,^5", "^5 ^", "^^5", "2^5",
            "2/5\t^5", "^1_0", "^5.0", "2/5 ^5 x", "2/2 ^5", "^5 2/2", "2/5 5/6 ^7", "^9 6/5 5/2",
        ):
            self.refuse(text)

    def test_each_sign_put_otherwise(self):
        for text in ("2/5 ^6 6/1", "^10 9/5 3/0", "0/1 2/4 ^4"):
            for at in range(len(text) + 1):
                for sign in list("0123456789/^ -+x\n") + [""]:
                    for other in (text[:at] + sign + text[at:], text[:at] + sign + text[at + 1:]):
                        try:
                            shape = read_form(other)
                        except NoText as no:
                            self.assertIsNone(no.at)
                            continue
                        self.assertTrue(is_form(shape))
                        self.assertEqual(form_text(shape), other)


if __name__ == "__main__":
    unittest.main()
