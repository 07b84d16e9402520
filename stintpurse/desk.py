"""A desk: books kept by names, and benches for some of them, asked by lines of words."""

from stintpurse.benches import Bench
from stintpurse.books import acts_in
from stintpurse.errors import BadBook, NoText, StintError
from stintpurse.formed import form, least
from stintpurse.looks import is_figures
from stintpurse.partings import parting, serves
from stintpurse.standings import text_of
from stintpurse.texts import form_text, read_book

LETTERS = "abcdefghijklmnopqrstuvwxyz"
MOST_LETTERS = 8
MOST_FIGURES = 20
MOST_BOOKS = 20

# What stands behind each word: "kept" is the name of a book, "bench" of one that has a bench.
LINES = {
    "book": ("name", "text"),
    "drop": ("kept",),
    "names": (),
    "least": ("kept",),
    "form": ("kept",),
    "acts": ("kept",),
    "alike": ("kept", "kept"),
    "serves": ("kept", "kept"),
    "bench": ("kept", "number"),
    "guard": ("kept", "number"),
    "go": ("bench", "way"),
    "stretch": ("bench", "way"),
    "gift": ("bench", "gift"),
    "back": ("bench",),
    "ways": ("bench",),
    "safe": ("bench",),
    "at": ("bench",),
}


def is_name(word):
    """Whether a word is a name."""
    return 1 <= len(word) <= MOST_LETTERS and all([letter in LETTERS for letter in word])


def is_number(word):
    """Whether a word is a number of as many figures as may be."""
    return len(word) <= MOST_FIGURES and is_figures(word)


def is_gift(word):
    """Whether a word is a number, perhaps with - ahead, where it is above 0."""
    return is_number(word) or (word.startswith("-") and word != "-0" and is_number(word[1:]))


def is_way_word(word):
    """Whether a word is numbers with dots between, or the one dot of none."""
    return word == "." or all([is_number(part) for part in word.split(".")])


def fits(kind, word):
    """Whether a word can stand where that kind is wanted."""
    if kind == "number":
        return is_number(word)
    if kind == "gift":
        return is_gift(word)
    if kind == "way":
        return is_way_word(word)
    return kind == "text" or is_name(word)


def is_line(words):
    """Whether the words are one of the lines."""
    kinds = LINES.get(words[0])
    if kinds is None or len(words) != 1 + len(kinds):
        return False
    return all([len(word) > 0 and fits(kind, word) for kind, word in zip(kinds, words[1:])])


def way_of(word):
    """The way, or place, that a word tells."""
    return () if word == "." else tuple([int(part) for part in word.split(".")])


def way_word(way):
    """The word of a way."""
    return ".".join([str(number) for number in way]) if len(way) > 0 else "."


def listed(words):
    """Words with blanks between, - of none."""
    return " ".join(words) if len(words) > 0 else "-"


def least_line(books):
    """What `least` answers."""
    return str(least(books[0]))


def form_line(books):
    """What `form` answers."""
    return form_text(form(books[0]))


def acts_line(books):
    """What `acts` answers."""
    return str(acts_in(books[0]))


def alike_line(books):
    """What `alike` answers."""
    told = parting(books[0], books[1])
    if told is None:
        return "yes"
    test, one, other = told
    word = f"{test[0]}/{test[1]}" if len(test) > 0 else "-"
    return f"no {word} {one} {other}"


def serves_line(books):
    """What `serves` answers."""
    return "yes" if serves(books[0], books[1]) else "no"


def go_line(bench, words):
    """What `go` answers."""
    return str(bench.go(way_of(words[0])))


def stretch_line(bench, words):
    """What `stretch` answers."""
    return str(bench.stretch(way_of(words[0])))


def gift_line(bench, words):
    """What `gift` answers."""
    return str(bench.gift(int(words[0])))


def back_line(bench, words):
    """What `back` answers."""
    return str(bench.back())


def ways_line(bench, words):
    """What `ways` answers."""
    return listed([way_word(way) for way in bench.ways()])


def safe_line(bench, words):
    """What `safe` answers."""
    lack = bench.lacking()
    return "yes" if lack == 0 else f"no {lack}"


def at_line(bench, words):
    """What `at` answers."""
    return text_of(bench.book(), bench.standing())


ASKED_OF_BOOKS = {
    "least": least_line,
    "form": form_line,
    "acts": acts_line,
    "alike": alike_line,
    "serves": serves_line,
}
ASKED_OF_BENCHES = {
    "go": go_line,
    "stretch": stretch_line,
    "gift": gift_line,
    "back": back_line,
    "ways": ways_line,
    "safe": safe_line,
    "at": at_line,
}


class Desk:
    """Books by names, and benches for some of them."""

    def __init__(self):
        self.books = {}
        self.benches = {}

    def say(self, line):
        """The answer to a line, anything."""
        words = line.split(" ") if isinstance(line, str) else [""]
        if not is_line(words):
            return "no line"
        if not self.has_names(words):
            return "no name"
        word = words[0]
        if word in ASKED_OF_BOOKS:
            action = ASKED_OF_BOOKS[word]
            return action([self.books[name] for name in words[1:]])
        if word in ASKED_OF_BENCHES:
            return self.ask_bench(word, self.benches[words[1]], words[2:])
        return self.change(words)

    def has_names(self, words):
        """Whether all names are kept, and have benches, that have to."""
        kinds = LINES[words[0]]
        for kind, word in zip(kinds, words[1:]):
            if kind == "kept" and word not in self.books:
                return False
            if kind == "bench" and word not in self.benches:
                return False
        return True

    def ask_bench(self, word, bench, words):
        """What a bench answers, or the name of what it refuses with."""
        action = ASKED_OF_BENCHES[word]
        try:
            return action(bench, words)
        except StintError:
            return "no " + bench.log()[-1][2]

    def change(self, words):
        """Changes what is kept, or tells the names."""
        word = words[0]
        if word == "names":
            return listed(sorted(list(self.books)))
        name = words[1]
        if word == "book":
            return self.keep(name, words[2])
        if word == "drop":
            self.books.pop(name)
            self.benches.pop(name, None)
        else:
            self.benches[name] = Bench(self.books[name], int(words[2]), guarded=word == "guard")
        return "done"

    def keep(self, name, text):
        """Keeps the book that a text tells under a name."""
        try:
            book = read_book(text)
        except NoText:
            return "no NoText"
        except BadBook:
            return "no BadBook"
        if name not in self.books and len(self.books) >= MOST_BOOKS:
            return "no Full"
        self.books[name] = book
        self.benches.pop(name, None)
        return "done"

    def run(self, lines):
        """The answers to lines, anything, as they are when they are handed in."""
        return tuple([self.say(line) for line in list(lines)])

    def kept(self):
        """(name, book) of all books, rising by names."""
        return tuple([(name, self.books[name]) for name in sorted(list(self.books))])
