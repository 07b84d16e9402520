"""Benches: a book that is worked through, act by act or stretch by stretch, and changed on the way."""

from stintpurse.books import acts_in
from stintpurse.bounds import DEEDS, LOG
from stintpurse.deeds import check_book, state_behind
from stintpurse.errors import BadBook, Begun, Doomed, Long, NoPart, NoPlace, NoPurse, NoStretch, Nothing, NoWay, Short
from stintpurse.rests import rest_of
from stintpurse.safety import is_purse, lack_of
from stintpurse.standings import begin, no_act_left, ways_on


class Bench:
    """A book, how it stands, and what the purse holds, with the deeds that led there."""

    def __init__(self, book, purse, *, guarded=False):
        check_book(book)
        if not is_purse(purse):
            raise NoPurse(purse)
        self.work = book
        self.stand = begin(book)
        self.purse = purse
        self.guarded = bool(guarded)
        self.steps = []
        self.notes = []

    def go(self, way):
        """Does the act to which a way leads."""
        return self.attempt("go", (way,))

    def stretch(self, place):
        """Does the next stretch of the part under way at a place."""
        return self.attempt("stretch", (place,))

    def put(self, place, book):
        """Puts another part in the place of one that isn't begun."""
        return self.attempt("put", (place, book))

    def join(self, book):
        """Puts a book beside all that there is."""
        return self.attempt("join", (book,))

    def follow(self, book):
        """Puts a book behind all that there is."""
        return self.attempt("follow", (book,))

    def gift(self, x):
        """Puts so much more into the purse, or takes it out."""
        return self.attempt("gift", (x,))

    def back(self):
        """Takes the last deed that stands back."""
        if len(self.steps) == 0:
            self.refuse("back", "Nothing")
            raise Nothing()
        word, things, state = self.steps.pop()
        self.take_state(state)
        self.note(("did", "back"))
        return self.purse

    def book(self):
        """The book as it is now."""
        return self.work

    def standing(self):
        """How far the book has got."""
        return self.stand

    def holds(self):
        """What the purse holds."""
        return self.purse

    def left(self):
        """The rest."""
        return rest_of(self.work, self.stand)

    def ways(self):
        """The ways on, rising."""
        return tuple(ways_on(self.work, self.stand))

    def is_safe(self):
        """Whether the rest can be done with what the purse holds."""
        return self.lacking() == 0

    def lacking(self):
        """How much more the purse would have to hold."""
        return lack_of(self.work, self.stand, self.purse)

    def is_ended(self):
        """Whether no act is left."""
        return no_act_left(self.work, self.stand)

    def deeds(self):
        """(word, things) of all deeds that stand."""
        return tuple([(word, things) for word, things, state in self.steps])

    def log(self):
        """What became of the last calls."""
        return tuple(self.notes)

    def twin(self):
        """A bench just so, that goes on by itself."""
        other = Bench(self.work, self.purse, guarded=self.guarded)
        other.stand = self.stand
        other.steps = list(self.steps)
        other.notes = list(self.notes)
        return other

    def __len__(self):
        return len(self.steps)

    def __eq__(self, other):
        return (
            isinstance(other, Bench)
            and self.work == other.work
            and self.stand == other.stand
            and self.purse == other.purse
            and self.guarded == other.guarded
        )

    def __str__(self):
        return f"purse {self.purse}, {self.acts_done()} of {acts_in(self.work)} acts"

    def acts_done(self):
        """How many acts are done."""
        return acts_in(self.work) - acts_in(self.left())

    def note(self, entry):
        """Keeps what became of a call, and of those ahead of it as many as a log has."""
        self.notes = (self.notes + [entry])[-LOG:]

    def refuse(self, word, name):
        """Keeps that a call was refused, by the name of the class."""
        self.note(("no", word, name))

    def take_state(self, state):
        """Stands as (book, standing, purse) tell."""
        self.work, self.stand, self.purse = state

    def outcome(self, word, things):
        """(book, standing, purse) behind a deed."""
        if len(self.steps) >= DEEDS:
            raise Long()
        state = state_behind(word, (self.work, self.stand, self.purse), things)
        if self.guarded:
            lack = lack_of(state[0], state[1], state[2])
            if lack > 0:
                raise Doomed(lack)
        return state

    def attempt(self, word, things):
        """Does a deed; where it is refused only the log tells of it."""
        try:
            state = self.outcome(word, things)
        except Long:
            self.refuse(word, "Long")
            raise
        except NoWay:
            self.refuse(word, "NoWay")
            raise
        except Short:
            self.refuse(word, "Short")
            raise
        except NoPart:
            self.refuse(word, "NoPart")
            raise
        except NoStretch:
            self.refuse(word, "NoStretch")
            raise
        except NoPlace:
            self.refuse(word, "NoPlace")
            raise
        except Begun:
            self.refuse(word, "Begun")
            raise
        except BadBook:
            self.refuse(word, "BadBook")
            raise
        except NoPurse:
            self.refuse(word, "NoPurse")
            raise
        except Doomed:
            self.refuse(word, "Doomed")
            raise
        self.steps.append((word, things, (self.work, self.stand, self.purse)))
        self.take_state(state)
        self.note(("did", word))
        return self.purse
