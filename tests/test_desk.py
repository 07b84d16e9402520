"""[44], [45]: a desk that is asked by lines."""

import random
import string
import unittest

from samples import is_told, odd_things
from worlds import ACT, NONE, chance_books, far_books
from stintpurse.benches import Bench
from stintpurse.books import acts_in
from stintpurse.bounds import BOOKS, COPIES, DEEDS
from stintpurse.desk import Desk
from stintpurse.errors import BadBook, NoText, StintError
from stintpurse.formed import form, least
from stintpurse.partings import parting_holds, serves
from stintpurse.standings import standing_text
from stintpurse.texts import book_text, form_text, read_book

TWO = ("then", (ACT, ("act", 5, 1)))
EXCHANGED = ("beside", (("act", 5, 1), ACT))


def desk_with(**books):
    desk = Desk()
    for name, book in books.items():
        desk.say(f"book {name} {book_text(book)}")
    return desk


class Said(unittest.TestCase):
    def ask(self, desk, line, answer):
        told = desk.say(line)
        self.assertEqual(told, answer, line)
        self.assertIs(told.__class__, str)

    def refuse(self, desk, line, answer):
        """The line is answered so, and nothing is changed."""
        before = self.all_of(desk)
        self.ask(desk, line, answer)
        self.assertEqual(self.all_of(desk), before, line)

    def all_of(self, desk):
        """All that a desk tells of what it keeps."""
        told = [desk.say("names"), desk.kept()]
        for name, _ in desk.kept():
            told += [desk.say(f"{word} {name}") for word in ("least", "form", "acts", "ways", "safe", "at")]
        return told


class Books(Said):
    def test_kept_dropped_and_named(self):
        desk = Desk()
        self.ask(desk, "names", "-")
        self.ask(desk, "book b 2/5", "done")
        self.ask(desk, "names", "b")
        self.ask(desk, "book abcdefgh (2/5;5/1)", "done")
        self.ask(desk, "book az (;)", "done")
        self.ask(desk, "names", "abcdefgh az b")
        self.assertEqual(desk.kept(), (("abcdefgh", TWO), ("az", NONE), ("b", ACT)))
        self.ask(desk, "book b 1/1", "done")
        self.assertEqual(desk.kept()[-1], ("b", ("act", 1, 1)))
        self.ask(desk, "drop az", "done")
        self.ask(desk, "names", "abcdefgh b")
        self.refuse(desk, "drop az", "no name")
        self.ask(desk, "drop b", "done")
        self.ask(desk, "drop abcdefgh", "done")
        self.ask(desk, "names", "-")
        self.assertEqual(desk.kept(), ())

    def test_asked(self):
        books = dict(zip(string.ascii_lowercase[:20], chance_books(12, 901) + far_books()[:8]))
        desk = desk_with(**books)
        for name, book in books.items():
            self.ask(desk, f"least {name}", str(least(book)))
            self.ask(desk, f"form {name}", form_text(form(book)))
            self.ask(desk, f"acts {name}", str(acts_in(book)))
            for other, second in books.items():
                self.ask(desk, f"serves {name} {other}", "yes" if serves(book, second) else "no")
                self.look_at_alike(desk.say(f"alike {name} {other}"), book, second)

    def look_at_alike(self, answer, book, other):
        words = answer.split(" ")
        if form(book) == form(other):
            self.assertEqual(answer, "yes")
            return
        self.assertEqual((words[0], len(words)), ("no", 4))
        test = () if words[1] == "-" else tuple(int(number) for number in words[1].split("/"))
        self.assertTrue(parting_holds(book, other, (test, int(words[2]), int(words[3]))), answer)

    def test_some_that_are_told(self):
        desk = desk_with(a=ACT, b=("act", 3, 6), c=("then", (ACT, NONE)), d=("beside", (ACT, ("act", 5, 1))))
        self.ask(desk, "least d", "2")
        self.ask(desk, "form d", "2/5 ^5 5/1")
        self.ask(desk, "acts d", "2")
        self.ask(desk, "alike a c", "yes")
        self.ask(desk, "alike a b", "no - 2 3")
        self.ask(desk, "serves a b", "yes")
        self.ask(desk, "serves b a", "no")
        desk = desk_with(a=("act", 2, 2), b=("then", (("act", 2, 1), ("act", 1, 2))), c=TWO, d=EXCHANGED)
        self.ask(desk, "alike a b", "yes")
        self.assertEqual(desk.say("alike c a").split(" ")[0], "no")

    def test_full(self):
        desk = Desk()
        for number in range(20):
            self.ask(desk, f"book {'abcdefghijklmnopqrst'[number]} {number}/0", "done")
        self.refuse(desk, "book u 2/5", "no Full")
        self.refuse(desk, "book u 2/", "no NoText")
        self.refuse(desk, "book u 1000000000001/1", "no BadBook")
        self.ask(desk, "book c 2/5", "done")
        self.ask(desk, "drop a", "done")
        self.ask(desk, "book u 2/5", "done")
        self.refuse(desk, "book a 2/5", "no Full")
        self.assertEqual(len(desk.kept()), 20)

    def test_texts_that_are_refused(self):
        desk = desk_with(a=TWO)
        for text in ("2", "02/5", "(2/5)", "x", "2/5\n", "\n", "(", "2/5;", "1000000000001/1", "9" * 2900 + "/1", "1&" * 900):
            try:
                read_book(text)
            except NoText:
                answer = "no NoText"
            except BadBook:
                answer = "no BadBook"
            self.refuse(desk, f"book a {text}", answer)
            self.refuse(desk, f"book new {text}", answer)
        self.refuse(desk, "book a (" + ";".join(["1/1"] * BOOKS) + ")", "no BadBook")
        # a bench stays, where the new text is refused
        desk.say("bench a 9")
        self.refuse(desk, "book a x", "no NoText")
        self.ask(desk, "at a", "0:0")


class Benches(Said):
    def test_one(self):
        desk = desk_with(a=("beside", (TWO, ("many", 2, ACT))))
        self.ask(desk, "bench a 3", "done")
        self.ask(desk, "ways a", "0.0 1.0")
        self.ask(desk, "safe a", "yes")
        self.ask(desk, "at a", "[0:0,{2x0}]")
        self.ask(desk, "go a 1.0", "6")
        self.ask(desk, "at a", "[0:0,{1x0,1x1}]")
        self.ask(desk, "stretch a .", "12")
        self.ask(desk, "at a", "[1:0,{2x1}]")
        self.ask(desk, "ways a", "0.1")
        self.ask(desk, "gift a -8", "4")
        self.ask(desk, "safe a", "no 1")
        self.ask(desk, "go a 0.1", "no Short")
        self.ask(desk, "gift a 1", "5")
        self.ask(desk, "go a 0.1", "1")
        self.ask(desk, "ways a", "-")
        self.ask(desk, "safe a", "yes")
        self.ask(desk, "back a", "5")
        self.ask(desk, "back a", "4")
        self.ask(desk, "stretch a 1.0", "no NoStretch")
        self.ask(desk, "stretch a 5", "no NoPart")
        self.ask(desk, "go a 7", "no NoWay")
        self.ask(desk, "go a .", "no NoWay")
        self.ask(desk, "gift a -5", "no NoPurse")
        # the book that is kept isn't what the bench makes of it
        self.assertEqual(desk.kept(), (("a", ("beside", (TWO, ("many", 2, ACT)))),))

    def test_of_an_act(self):
        desk = desk_with(a=ACT)
        desk.say("bench a 2")
        self.ask(desk, "ways a", ".")
        self.ask(desk, "at a", "0")
        self.ask(desk, "go a .", "5")
        self.ask(desk, "ways a", "-")
        self.ask(desk, "back a", "2")
        self.ask(desk, "back a", "no Nothing")

    def test_guarded(self):
        desk = desk_with(a=EXCHANGED)
        self.ask(desk, "guard a 5", "done")
        self.ask(desk, "go a 0", "no Doomed")
        self.ask(desk, "gift a -3", "2")
        self.ask(desk, "gift a -1", "no Doomed")
        self.ask(desk, "stretch a .", "5")
        self.ask(desk, "go a 0", "1")
        self.ask(desk, "guard a 0", "done")
        self.ask(desk, "safe a", "no 2")
        self.ask(desk, "gift a 1", "no Doomed")
        self.ask(desk, "gift a 2", "2")
        self.ask(desk, "bench a 0", "done")
        self.ask(desk, "gift a 1", "1")

    def test_gone_with_its_book(self):
        desk = desk_with(a=ACT, b=ACT)
        desk.run(("bench a 7", "bench b 8"))
        self.ask(desk, "book a 2/5", "done")
        self.refuse(desk, "at a", "no name")
        self.ask(desk, "at b", "0")
        desk.say("bench a 7")
        self.ask(desk, "drop a", "done")
        self.refuse(desk, "at a", "no name")
        self.ask(desk, "book a 2/5", "done")
        self.refuse(desk, "at a", "no name")
        self.ask(desk, "back b", "no Nothing")

    def test_anew(self):
        desk = desk_with(a=TWO)
        desk.run(("bench a 7", "go a 0", "gift a 3"))
        self.ask(desk, "at a", "1:0")
        self.ask(desk, "bench a 9", "done")
        self.ask(desk, "at a", "0:0")
        self.ask(desk, "back a", "no Nothing")
        self.ask(desk, "gift a 0", "9")

    def test_as_many_deeds_as_may_stand(self):
        desk = desk_with(a=ACT)
        desk.say("guard a 2")
        for turn in range(DEEDS):
            self.ask(desk, "gift a 1", str(3 + turn))
        for line in ("gift a 1", "go a .", "go a 9", "stretch a .", "stretch a 4", "gift a -99999"):
            self.refuse(desk, line, "no Long")
        self.ask(desk, "back a", str(2 + DEEDS - 1))
        self.ask(desk, "gift a 0", str(2 + DEEDS - 1))

    def test_far_copies(self):
        desk = desk_with(a=("times", COPIES, ("many", 1, ACT)))
        self.ask(desk, "acts a", str(COPIES))
        self.ask(desk, "bench a 2", "done")
        self.ask(desk, "stretch a .", str(2 + 3 * COPIES))
        self.ask(desk, "at a", f"{COPIES}:")
        self.ask(desk, "back a", "2")
        self.ask(desk, "go a 0.0", "5")
        self.ask(desk, "go a 0.0", "no NoWay")
        self.ask(desk, "at a", "1:{1x0}")
        self.ask(desk, "stretch a 0", "8")

    def test_against_a_bench(self):
        chance = random.Random(902)
        for book in chance_books(40, 903, most=20) + far_books()[:20]:
            desk = desk_with(a=book)
            guarded = chance.randint(0, 1)
            purse = least(book) + chance.randint(-2, 2)
            purse = max(0, purse)
            bench = Bench(book, purse, guarded=guarded)
            self.ask(desk, f"{'guard' if guarded else 'bench'} a {purse}", "done")
            for _ in range(15):
                self.both(chance, desk, bench)
                self.ask(desk, "at a", standing_text(bench.book(), bench.standing()))
                self.ask(desk, "safe a", "yes" if bench.is_safe() else f"no {bench.lacking()}")
                texts = [".".join(str(number) for number in way) or "." for way in bench.ways()]
                self.ask(desk, "ways a", " ".join(texts) or "-")

    def both(self, chance, desk, bench):
        """The same deed on both."""
        word = chance.choice(("go", "stretch", "gift", "back"))
        things = ()
        text = ""
        if word in ("go", "stretch"):
            way = chance.choice(bench.ways() or ((0,),))
            way = way[:chance.randint(0, len(way))] if word == "stretch" else way
            things = (way,)
            text = " " + (".".join(str(number) for number in way) or ".")
        elif word == "gift":
            things = (chance.randint(-3, 3),)
            text = f" {things[0]}"
        try:
            answer = str(getattr(bench, word)(*things))
        except StintError as no:
            answer = "no " + no.__class__.__name__
        self.ask(desk, f"{word} a{text}", answer)


class Refused(Said):
    def desk(self):
        desk = desk_with(a=ACT, b=TWO, c=TWO)
        desk.run(("bench a 7", "guard b 9", "go b 0"))
        return desk

    def test_no_name(self):
        desk = self.desk()
        for line in (
            "drop x", "least x", "form x", "acts x", "alike a x", "alike x a", "alike x y", "serves a x", "serves x a",
            "bench x 3", "guard x 3", "go x 0", "go c 0", "stretch c .", "gift c 1", "gift c -1", "back c", "ways c",
            "safe c", "at c", "at x", "back x", "go c 9.9.9", "ways abcdefgh",
        ):
            self.refuse(desk, line, "no name")

    def test_no_line(self):
        desk = self.desk()
        for line in (
            "", " ", "x", "names ", " names", "names a", "Names", "names\n", "\nnames", "book", "book a", "book a ", "book  2/5",
            "book a 2/5 ", "book a  2/5", "book a 2/5 3", " book a 2/5", "book A 2/5", "book abcdefghi 2/5", "book a1 2/5",
            "book a\n 2/5", "book \n 2/5", "book a-b 2/5", "book a_b 2/5", "Book a 2/5", "BOOK a 2/5", "book a (2/5; 4/4)",
            "drop", "drop ", "drop a b", "drop A", "least", "least a b", "least a ", "least a\n", "least  a", "least 1",
            "form", "form a a", "acts", "acts abcdefghi", "alike a", "alike", "alike a b c", "alike a  b", "alike a B",
            "serves a", "serves a b c", "bench a", "bench a ", "bench a x", "bench a -1", "bench a 01", "bench a 00",
            "bench a +1", "bench a 1.0", "bench a 1 1", "bench a 1\n", "bench a 123456789012345678901", "bench x x",
            "guard a", "guard a -0", "guard a 1x", "go a", "go", "go a 0.", "go a .0", "go a 0..0", "go a 00", "go a -1",
            "go a 0,0", "go a 0 0", "go a x", "go x x", "go a ..", "go a 0\n", "go a 0.01", "go a 123456789012345678901",
            "stretch a", "stretch a x", "stretch a ..", "stretch a 0.", "gift a", "gift a x", "gift a -0", "gift a --1",
            "gift a +1", "gift a 01", "gift a -01", "gift a -", "gift a 1.5", "gift a 123456789012345678901",
            "gift a -123456789012345678901", "gift a 1 ", "back", "back a 1", "back a ", "ways", "ways a 1", "safe", "at",
            "safe a a", "at a a", "at  a", "say", "run", "kept", "bench", "put a . 2/5", "join a 2/5", "twin a", "log a", "b a",
            "least a\n", "book\na 2/5", "drop\ta", "acts a\nleast a",
        ):
            self.refuse(desk, line, "no line")

    def test_lines_of_anything(self):
        desk = self.desk()
        for thing in odd_things() + [(), ("names",), ["names"], b"names", {"names": 1}, 7, ("least", "a")]:
            self.refuse(desk, thing, "no line")

    def test_numbers_of_twenty_figures(self):
        desk = self.desk()
        far = "12345678901234567890"
        self.ask(desk, f"bench a {far}", "done")
        self.ask(desk, f"gift a {far}", str(2 * int(far)))
        self.ask(desk, f"gift a -{far}", far)
        self.ask(desk, f"go a {far}", "no NoWay")
        self.ask(desk, f"go a 0.{far}.0", "no NoWay")
        self.ask(desk, f"stretch a {far}", "no NoPart")
        self.ask(desk, "gift a 0", far)
        self.ask(desk, f"gift a -9{far[1:]}", "no NoPurse")

    def test_in_their_order(self):
        desk = Desk()
        for number in range(20):
            desk.say(f"book {string.ascii_lowercase[number]} 2/5")
        self.refuse(desk, "bench z 3", "no name")
        self.refuse(desk, "go z 0", "no name")
        self.refuse(desk, "book z 2/", "no NoText")
        self.refuse(desk, "book z (" + ";".join(["1/1"] * BOOKS) + ")", "no BadBook")
        self.refuse(desk, "book z 2/5", "no Full")

    def test_line_ends_in_words(self):
        desk = self.desk()
        self.refuse(desk, "book a 2/5\n", "no NoText")
        self.refuse(desk, "book a \n", "no NoText")
        self.refuse(desk, "book a (2/5\n;4/4)", "no NoText")
        self.refuse(desk, "book a\n 2/5", "no line")


class Run(Said):
    def test_of_a_tuple_and_of_a_list(self):
        lines = ["book a 2/5", "names", None, "least a", 7, ["names"], "bench a 2", "go a .", "", "at a"]
        wanted = ("done", "a", "no line", "2", "no line", "no line", "done", "5", "no line", "1")
        for given in (lines, tuple(lines)):
            desk = Desk()
            told = desk.run(given)
            self.assertEqual(told, wanted)
            self.assertTrue(is_told(told))
        self.assertEqual(lines[2:6], [None, "least a", 7, ["names"]])
        self.assertEqual(Desk().run(()), ())
        self.assertEqual(Desk().run([]), ())

    def test_as_it_is_when_run_is_called(self):
        lines = ["book a 2/5", "names"]
        desk = Desk()
        told = desk.run(lines)
        lines.append("least a")
        lines[0] = "x"
        self.assertEqual(told, ("done", "a"))

    def test_kept(self):
        books = dict(zip(("zz", "a", "mm", "ab", "z"), chance_books(5, 904)))
        desk = desk_with(**books)
        self.assertEqual(desk.kept(), tuple(sorted(books.items())))
        self.assertTrue(is_told(desk.kept()))
        self.assertEqual(Desk().kept(), ())

    def test_two_desks_share_nothing(self):
        one = desk_with(a=ACT)
        other = Desk()
        self.ask(other, "names", "-")
        self.ask(other, "least a", "no name")
        other.say("book a (2/5;5/1)")
        one.say("bench a 3")
        self.ask(other, "at a", "no name")
        other.say("bench a 9")
        one.say("go a .")
        self.ask(one, "at a", "1")
        self.ask(other, "at a", "0:0")
        one.say("drop a")
        self.ask(other, "names", "a")


if __name__ == "__main__":
    unittest.main()
