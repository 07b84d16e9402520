"""Texts of books and of forms, written and read."""

from stintpurse.books import bookfault
from stintpurse.errors import BadBook, NoText
from stintpurse.forms import is_form
from stintpurse.looks import is_figure, is_figures

WORDS = {";": "then", "|": "beside", "*": "times", "&": "many"}
SIGNS = {"then": ";", "beside": "|", "times": "*", "many": "&"}
# Numbers of more figures are beyond all bounds of a book, and it doesn't matter how far.
MOST_FIGURES = 30
BEYOND = 10 ** 30


def book_text(book):
    """The text of a book."""
    word = book[0]
    if word == "act":
        return f"{book[1]}/{book[2]}"
    sign = SIGNS[word]
    if word in ("times", "many"):
        return f"{book[1]}{sign}" + book_text(book[2])
    texts = [book_text(part) for part in book[1]]
    # One book, and none, have the sign at the end, as it would stand nowhere else.
    return "(" + sign.join(texts) + (sign if len(texts) < 2 else "") + ")"


class Reader:
    """A text of a book that is read, sign by sign; frames tell what is open round the place where it is.

    A frame is [word, k] of copies, and [word, books] of brackets, their word "" as long as no sign has told it.
    """

    def __init__(self, text):
        self.text = text
        self.at = 0
        self.frames = []

    def sign(self):
        """The next sign, "" at the end."""
        return self.text[self.at:self.at + 1]

    def passes(self, sign):
        """Whether the next sign is this one, which is passed then."""
        if self.sign() != sign:
            return False
        self.at += 1
        return True

    def read_figures(self):
        """The number that is told next."""
        first = self.at
        if not self.passes("0"):
            while is_figure(self.sign()):
                self.at += 1
        if self.at == first:
            raise NoText(first)
        return int(self.text[first:self.at]) if self.at - first <= MOST_FIGURES else BEYOND

    def read_word(self, signs):
        """What the next sign, one of these, tells."""
        sign = self.sign()
        if not (sign in WORDS and sign in signs):
            raise NoText(self.at)
        self.at += 1
        return WORDS[sign]

    def read_first(self):
        """The first book that is whole, with frames of all that opens ahead of it."""
        while True:
            if self.passes("("):
                if self.sign() in (";", "|"):
                    return self.read_nothing()
                self.frames.append(["", []])
            else:
                count = self.read_figures()
                if self.passes("/"):
                    return ("act", count, self.read_figures())
                self.frames.append([self.read_word("*&"), count])

    def read_nothing(self):
        """A then or beside without books, its bracket being open."""
        word = self.read_word(";|")
        if not self.passes(")"):
            raise NoText(self.at)
        return (word, ())

    def is_closed(self, frame):
        """Whether brackets end behind the book that was read last; else the sign is passed that a next one wants."""
        books = frame[1]
        if len(books) > 1 and self.passes(")"):
            return True
        frame[0] = self.read_word(SIGNS.get(frame[0], ";|"))
        return len(books) == 1 and self.passes(")")

    def close_frames(self, book):
        """The book with all round it that ends with it; None where there is a next one to be read."""
        made = book
        while len(self.frames) > 0:
            frame = self.frames[-1]
            if frame[0] in ("times", "many"):
                made = (frame[0], frame[1], made)
            else:
                frame[1].append(made)
                if not self.is_closed(frame):
                    return None
                made = (frame[0], tuple(frame[1]))
            self.frames.pop()
        return made

    def read_whole(self):
        """The book that all of the text tells."""
        made = None
        while made is None:
            made = self.close_frames(self.read_first())
        if self.at < len(self.text):
            raise NoText(self.at)
        return made


def read_book(thing):
    """The book that a text, anything, tells."""
    if not isinstance(thing, str):
        raise NoText(None)
    book = Reader(thing).read_whole()
    fault = bookfault(book)
    if fault is not None:
        raise BadBook(fault[0], fault[1])
    return book


def form_text(form):
    """The text of a form."""
    up, top, down = form
    ups = [f"{need}/{leave}" for need, leave in up]
    downs = [f"{need}/{leave}" for need, leave in down]
    return " ".join(ups + [f"^{top}"] + downs)


def read_pairs(words):
    """The pairs that the words tell; NoText where one tells none."""
    pairs = []
    for word in words:
        need, sign, leave = word.partition("/")
        if not (is_figures(need) and is_figures(leave)):
            raise NoText(None)
        pairs.append((int(need), int(leave)))
    return tuple(pairs)


def read_form(thing):
    """The form that a text, anything, tells."""
    if not isinstance(thing, str):
        raise NoText(None)
    words = thing.split(" ")
    tops = [at for at, word in enumerate(words) if word.startswith("^")]
    if len(tops) != 1 or not is_figures(words[tops[0]][1:]):
        raise NoText(None)
    at = tops[0]
    form = (read_pairs(words[:at]), int(words[at][1:]), read_pairs(words[at + 1:]))
    if not is_form(form):
        raise NoText(None)
    return form
