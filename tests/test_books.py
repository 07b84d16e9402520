"""[15], [16], [17]: books."""

import unittest

from samples import asked_twice, is_told, odd_things, spoiled
from worlds import ACT, NONE, chance_books, nested
from stintpurse.bounds import BOOKS, COPIES, DEEP, MOST
from stintpurse.books import acts_in, bookfault, changed, gain_of, part_at, places_of, turned_book
from stintpurse.errors import BadBook, NoPlace

BOOK = ("then", (
    ACT,
    ("beside", (("act", 4, 4), ("times", 3, ("beside", (("act", 1, 0), NONE))))),
    ("many", 0, ("then", (ACT, ("act", 9, 1)))),
))
PLACES = (
    (), (0,), (1,), (1, 0), (1, 1), (1, 1, 0), (1, 1, 0, 0), (1, 1, 0, 1), (2,), (2, 0), (2, 0, 0), (2, 0, 1),
)


def plain_faults(thing, place=(), copies=1):
    """All faults but that of size, in preorder, at one place in the told order."""
    lengths = {"act": 3, "then": 2, "beside": 2, "times": 3, "many": 3}

    def up_to(part, most):
        return part.__class__ is int and 0 <= part <= most

    worded = thing.__class__ is tuple and thing and thing[0].__class__ is str
    if not worded or lengths.get(thing[0]) != len(thing):
        return [(place, "book")]
    faults, parts = [], ()
    if thing[0] == "act":
        faults += [(place, "need")] * (not up_to(thing[1], MOST)) + [(place, "leave")] * (not up_to(thing[2], MOST))
    elif thing[0] in ("then", "beside"):
        if thing[1].__class__ is tuple:
            parts = thing[1]
        else:
            faults.append((place, "books"))
    elif up_to(thing[1], COPIES):
        parts = thing[2:]
        copies *= thing[1] or 1
    else:
        faults.append((place, "many"))
    if len(place) >= DEEP:
        faults.append((place, "deep"))
    if copies > COPIES:
        faults.append((place, "copies"))
    for number, part in enumerate(parts):
        if len(place) < DEEP:
            faults += plain_faults(part, place + (number,), copies)
    return faults


class Faults(unittest.TestCase):
    def test_books_have_none(self):
        for book in (
            ACT, NONE, ("beside", ()), ("times", 0, ACT), ("many", COPIES, ACT), ("act", 0, 0), ("act", MOST, MOST),
            BOOK, ("then", (ACT, ACT)),
        ):
            self.assertIsNone(asked_twice(self, bookfault, book), book)
        for book in chance_books(300, 51):
            self.assertIsNone(bookfault(book), book)

    def test_each_why_at_the_root_and_deep_within(self):
        faulty = (
            (None, "book"), ("act", "book"), ((), "book"), (("act",), "book"), (("act", 1), "book"),
            (("act", 1, 2, 3), "book"), (("Act", 1, 2), "book"), (("", 1, 2), "book"), (["act", 1, 2], "book"),
            ((None, 1, 2), "book"), ((["act"], 1, 2), "book"), (({}, 1, 2), "book"), ((("act",), 1, 2), "book"),
            ((0, 1, 2), "book"), (("acts", 1, 2), "book"), (("open",), "book"),
            (("then",), "book"), (("then", (), ()), "book"), (("beside", 1, ()), "book"), (("beside",), "book"),
            (("times", 3), "book"), (("times", ACT), "book"), (("many", 1, ACT, ACT), "book"), (("many", 2), "book"),
            (("act", -1, 2), "need"), (("act", MOST + 1, 2), "need"), (("act", True, 2), "need"),
            (("act", None, 2), "need"), (("act", "1", 2), "need"), (("act", (1,), 2), "need"),
            (("act", -1, -1), "need"), (("act", False, True), "need"),
            (("act", 1, -1), "leave"), (("act", 1, MOST + 1), "leave"), (("act", 1, False), "leave"),
            (("act", 1, [2]), "leave"), (("act", MOST, None), "leave"),
            (("then", []), "books"), (("then", [ACT]), "books"), (("beside", None), "books"), (("beside", {}), "books"),
            (("then", "act"), "books"), (("beside", 0), "books"),
            (("times", -1, ACT), "many"), (("times", COPIES + 1, ACT), "many"), (("many", True, ACT), "many"),
            (("many", False, ACT), "many"), (("times", None, None), "many"), (("many", "2", ACT), "many"),
            (("times", (2,), ACT), "many"),
        )
        for thing, why in faulty:
            self.assertEqual(asked_twice(self, bookfault, thing), ((), why), thing)
            for place, around in (
                ((1,), lambda part: ("then", (ACT, part, None))),
                ((0, 2), lambda part: ("many", 3, ("beside", (ACT, NONE, part)))),
                ((0, 0, 0, 0), lambda part: ("times", 0, ("many", 0, nested(2, part)))),
                ((0,) * (DEEP - 1), lambda part: nested(DEEP - 1, part)),
            ):
                self.assertEqual(asked_twice(self, bookfault, around(thing)), (place, why), thing)

    def test_the_first_in_preorder(self):
        bad = ("act", -1, 2)
        self.assertEqual(bookfault(("then", (("then", (ACT, bad)), None))), ((0, 1), "need"))
        self.assertEqual(bookfault(("then", (ACT, None, bad))), ((1,), "book"))
        self.assertEqual(bookfault(("times", COPIES + 1, bad)), ((), "many"))
        self.assertEqual(bookfault(("beside", (("many", 2, ("times", COPIES, bad)), bad))), ((0, 0), "copies"))
        self.assertEqual(bookfault(("beside", (bad, ("many", 2, ("times", COPIES, ACT))))), ((0,), "need"))
        self.assertEqual(bookfault(("then", (ACT,) * BOOKS + (bad,))), ((BOOKS,), "need"))

    def test_most(self):
        for need, leave, fault in (
            (MOST, MOST, None), (MOST + 1, MOST, ((), "need")), (MOST, MOST + 1, ((), "leave")),
            (MOST + 1, MOST + 1, ((), "need")), (0, 0, None),
        ):
            self.assertEqual(bookfault(("act", need, leave)), fault)

    def test_copies(self):
        half = 10 ** 8
        for thing, fault in (
            (("times", COPIES, ACT), None),
            (("times", COPIES + 1, ACT), ((), "many")),
            (("many", half, ("times", 10 ** 7, ACT)), None),
            (("many", half, ("times", 10 ** 7 + 1, ACT)), ((0,), "copies")),
            (("many", 2, ("times", COPIES, ACT)), ((0,), "copies")),
            (("many", COPIES, ("times", 2, ACT)), ((0,), "copies")),
            (("many", COPIES, ("times", 1, ACT)), None),
            # none count as one, on the way and at its own place
            (("many", 0, ("times", COPIES, ACT)), None),
            (("times", COPIES, ("many", 0, ACT)), None),
            (("times", COPIES, ("many", 0, ("times", 2, ACT))), ((0, 0), "copies")),
            (("many", 0, ("times", 2, ("times", COPIES, ACT))), ((0, 0), "copies")),
            (("many", 3, ("then", (ACT, ("times", COPIES // 2, ACT)))), ((0, 1), "copies")),
            # copies beside one another in a book don't multiply
            (("then", (("times", COPIES, ACT), ("many", COPIES, ACT))), None),
            (("times", half, ("times", half, None)), ((0,), "copies")),
        ):
            self.assertEqual(bookfault(thing), fault, thing)

    def test_deep(self):
        for word in ("then", "beside"):
            self.assertIsNone(bookfault(nested(DEEP - 1, ACT, word)))
            self.assertEqual(bookfault(nested(DEEP, ACT, word)), ((0,) * DEEP, "deep"))
            self.assertEqual(bookfault(nested(DEEP + 5, ACT, word)), ((0,) * DEEP, "deep"))
        self.assertIsNone(bookfault(nested(DEEP - 1, NONE)))
        self.assertEqual(bookfault(nested(DEEP, NONE)), ((0,) * DEEP, "deep"))
        self.assertEqual(bookfault(nested(DEEP, None)), ((0,) * DEEP, "book"))
        self.assertEqual(bookfault(nested(DEEP, ("act", 1, -1))), ((0,) * DEEP, "leave"))
        self.assertEqual(bookfault(nested(DEEP, ("then", []))), ((0,) * DEEP, "books"))
        self.assertEqual(bookfault(nested(DEEP, ("times", -1, ACT))), ((0,) * DEEP, "many"))
        too_many = ("many", COPIES, nested(DEEP - 1, ("times", 2, ACT)))
        self.assertEqual(bookfault(too_many), ((0,) * DEEP, "deep"))
        thing = ACT
        for _ in range(DEEP):
            thing = ("times", 1, thing)
        self.assertEqual(bookfault(thing), ((0,) * DEEP, "deep"))
        self.assertIsNone(bookfault(thing[2]))

    def test_size(self):
        self.assertIsNone(bookfault(("then", (ACT,) * (BOOKS - 1))))
        self.assertEqual(bookfault(("then", (ACT,) * BOOKS)), ((), "size"))
        self.assertEqual(bookfault(("beside", (NONE,) * BOOKS)), ((), "size"))
        # that of a times or many counts once, and they themselves
        half = ("times", 9, ("then", (ACT,) * 28))
        self.assertIsNone(bookfault(("beside", (("then", (ACT,) * 28), half))))
        self.assertEqual(bookfault(("beside", (("then", (ACT,) * 29), half))), ((), "size"))
        # behind all others, wherever they stand
        too_deep = ("then", (ACT,) * BOOKS + (nested(DEEP, ACT),))
        self.assertEqual(bookfault(too_deep), ((BOOKS,) + (0,) * (DEEP - 1), "deep"))
        self.assertEqual(bookfault(("then", (ACT,) * 2500)), ((), "size"))

    def test_anything(self):
        for thing in odd_things():
            self.assertEqual(asked_twice(self, bookfault, thing), ((), "book"), thing)
            for word in ("act", "then", "beside", "times", "many"):
                for made in ((word, thing), (word, thing, thing), (word, 1, thing), (word, (thing,)), (thing, word)):
                    told = asked_twice(self, bookfault, made)
                    faults = plain_faults(made)
                    self.assertEqual(told, faults[0] if faults else None, made)

    def test_spoiled_books(self):
        for book in [BOOK, ("times", COPIES, ACT), nested(DEEP - 1, ACT)] + chance_books(40, 52):
            for bad in spoiled(book):
                faults = plain_faults(bad)
                self.assertEqual(bookfault(bad), faults[0] if faults else None, bad)


class Places(unittest.TestCase):
    def test_places_in_preorder(self):
        self.assertEqual(asked_twice(self, places_of, BOOK), PLACES)
        self.assertEqual(places_of(ACT), ((),))
        self.assertEqual(places_of(NONE), ((),))
        for book in chance_books(100, 53):
            places = places_of(book)
            # Python's order of tuples is preorder.
            self.assertEqual(places, tuple(sorted(set(places))))

    def test_part_at(self):
        for place, part in (
            ((), BOOK), ((0,), ACT), ((1, 0), ("act", 4, 4)), ((1, 1), BOOK[1][1][1][1]), ((1, 1, 0, 1), NONE),
            ((2, 0), BOOK[1][2][2]), ((2, 0, 1), ("act", 9, 1)),
        ):
            self.assertEqual(asked_twice(self, part_at, BOOK, place), part)

    def test_no_places(self):
        things = odd_things() + [
            (3,), (-1,), (0, 0), (1, 2), (1, 1, 1), (1, 1, -1), (2, 1), (True,), (False,), (2, False), (1, True),
            [], [0], (None,), ("0",), ((0,),), 0, "", None, (1, 1, 0, 1, 0), (10 ** 59,), {}, ([],),
        ]
        for thing in things:
            if thing == (1,) and thing[0].__class__ is int:
                continue
            for refused in (lambda place: part_at(BOOK, place), lambda place: changed(BOOK, place, ACT)):
                with self.assertRaises(NoPlace) as caught:
                    refused(thing)
                self.assertIs(caught.exception.place, thing)
        with self.assertRaises(NoPlace):
            part_at(ACT, (0,))
        with self.assertRaises(NoPlace):
            part_at(NONE, (0,))

    def test_changed(self):
        new = ("many", 2, ACT)
        self.assertEqual(asked_twice(self, changed, BOOK, (), new), new)
        self.assertEqual(
            asked_twice(self, changed, BOOK, (1, 1, 0, 0), new),
            ("then", (
                ACT,
                ("beside", (("act", 4, 4), ("times", 3, ("beside", (new, NONE))))),
                ("many", 0, ("then", (ACT, ("act", 9, 1)))),
            )),
        )
        self.assertEqual(changed(BOOK, (2, 0), new)[1][2], ("many", 0, new))
        for book in chance_books(60, 54):
            for place in places_of(book):
                told = changed(book, place, NONE)
                self.assertEqual(part_at(told, place), NONE)
                self.assertEqual(changed(told, place, part_at(book, place)), book)

    def test_changed_to_what_is_no_book(self):
        for place in PLACES:
            for thing, fault in (
                (None, ((), "book")), (["act", 1, 2], ((), "book")), (("act", 1, -2), ((), "leave")),
                (("then", (ACT, ("beside", []))), ((1,), "books")),
            ):
                with self.assertRaises(BadBook) as caught:
                    changed(BOOK, place, thing)
                self.assertEqual((caught.exception.place, caught.exception.why), (place + fault[0], fault[1]))
                self.assertTrue(is_told(caught.exception.place))

    def test_changed_to_what_is_too_great(self):
        for book, place, part, fault in (
            (("then", (ACT,) * (BOOKS - 1)), (3,), ("then", (ACT,)), ((), "size")),
            (nested(DEEP - 1, ACT), (0,) * (DEEP - 1), ("then", (ACT,)), ((0,) * DEEP, "deep")),
            (("times", COPIES, ACT), (0,), ("many", 2, ACT), ((0,), "copies")),
        ):
            with self.assertRaises(BadBook) as caught:
                changed(book, place, part)
            self.assertEqual((caught.exception.place, caught.exception.why), fault)

    def test_no_place_comes_ahead(self):
        for place in ((9,), None, (True,), [0]):
            with self.assertRaises(NoPlace):
                changed(BOOK, place, None)


def plain_acts(book):
    """The pairs of all acts of a small book, copies each."""
    if book[0] == "act":
        return [book[1:]]
    if book[0] in ("then", "beside"):
        return [pair for part in book[1] for pair in plain_acts(part)]
    return plain_acts(book[2]) * book[1]


class Sums(unittest.TestCase):
    def test_told_ones(self):
        for book, acts, gain in (
            (ACT, 1, 3), (NONE, 0, 0), (("beside", ()), 0, 0), (BOOK, 5, 0), (("times", 0, ACT), 0, 0),
            (("many", COPIES, ACT), COPIES, 3 * COPIES), (("many", COPIES, NONE), 0, 0),
            (("times", 10 ** 7, ("many", 10 ** 8, ("then", (ACT, ("act", MOST, 0))))), 2 * COPIES, COPIES * (3 - MOST)),
            (("times", COPIES, ("many", 0, ACT)), 0, 0),
            (("then", (("times", COPIES, ACT), ("act", 5, 2))), COPIES + 1, 3 * COPIES - 3),
        ):
            self.assertEqual(asked_twice(self, acts_in, book), acts, book)
            self.assertEqual(asked_twice(self, gain_of, book), gain, book)

    def test_small_ones_one_by_one(self):
        for book in chance_books(300, 55):
            if acts_in(book) < 10 ** 4:
                pairs = plain_acts(book)
                self.assertEqual(acts_in(book), len(pairs))
                self.assertEqual(gain_of(book), sum(leave - need for need, leave in pairs))


class Turning(unittest.TestCase):
    def test_told_one(self):
        self.assertEqual(asked_twice(self, turned_book, BOOK), ("then", (
            ("many", 0, ("then", (("act", 1, 9), ("act", 5, 2)))),
            ("beside", (("act", 4, 4), ("times", 3, ("beside", (("act", 0, 1), NONE))))),
            ("act", 5, 2),
        )))
        self.assertEqual(turned_book(ACT), ("act", 5, 2))
        self.assertEqual(turned_book(NONE), NONE)
        self.assertEqual(
            turned_book(("beside", (ACT, ("act", 1, 7)))), ("beside", (("act", 5, 2), ("act", 7, 1)))
        )

    def test_twice_and_its_sums(self):
        for book in chance_books(200, 56):
            turned = asked_twice(self, turned_book, book)
            self.assertEqual(turned_book(turned), book)
            self.assertIsNone(bookfault(turned))
            self.assertEqual((acts_in(turned), gain_of(turned)), (acts_in(book), -gain_of(book)))


if __name__ == "__main__":
    unittest.main()
