"""[39] to [41], [2]: a bench, its deeds, what it refuses, and what it tells."""

import copy
import itertools
import random
import unittest

from journeys import Journey
from samples import asked_twice, is_told, odd_things
from worlds import ACT, COPIED, NONE, chance_book, chance_books, far_books, inner_books, nested, stands_ahead
from stintpurse.benches import Bench
from stintpurse.books import acts_in, bookfault, changed, part_at, places_of
from stintpurse.bounds import BOOKS, COPIES, DEEDS, DEEP, LOG
from stintpurse.errors import (
    BadBook, Begun, Doomed, Long, NoPart, NoPlace, NoPurse, NoStretch, Nothing, NoWay, Short, StintError,
)
from stintpurse.formed import least
from stintpurse.going import stretch
from stintpurse.rests import got, rest
from stintpurse.safety import lacks, safe, safe_ways
from stintpurse.standings import act_at, begin, gone, is_ended, is_standing, ways

DOWN = ("act", 5, 1)
TWO = ("then", (ACT, DOWN))
WIDE = ("then", (ACT,) * (BOOKS - 1))
WORDS = ("go", "stretch", "put", "join", "follow", "gift")


def told_of(bench):
    """All that a bench tells but its log."""
    return (
        bench.book(), bench.standing(), bench.holds(), bench.left(), bench.ways(), bench.is_safe(), bench.lacking(),
        bench.is_ended(), bench.deeds(), len(bench), str(bench),
    )


class Refusing(unittest.TestCase):
    def refuse(self, bench, kind, fields, word, *things):
        """The deed is refused with these fields, and nothing but the log is changed."""
        before = told_of(bench)
        log = bench.log()
        kept = copy.deepcopy(things)
        with self.assertRaises(StintError, msg=(word, things)) as caught:
            getattr(bench, word)(*things)
        self.assertIs(caught.exception.__class__, kind)
        self.assertEqual({name: repr(value) for name, value in vars(caught.exception).items()}, {
            name: repr(value) for name, value in fields.items()
        })
        self.assertEqual(told_of(bench), before)
        self.assertEqual(bench.log(), (log + (("no", word, kind.__name__),))[-LOG:])
        self.assertEqual(repr(things), repr(kept))


class Made(unittest.TestCase):
    def test_at_the_beginning(self):
        for book in chance_books(60, 801) + far_books():
            bench = Bench(book, 7)
            self.assertEqual((bench.book(), bench.standing(), bench.holds()), (book, begin(book), 7))
            self.assertEqual((bench.deeds(), bench.log(), len(bench)), ((), (), 0))
            self.assertEqual(str(bench), "purse 7, 0 of %d acts" % acts_in(book))

    def test_no_book_ahead_of_no_purse(self):
        for thing in odd_things() + [(), ("act", 1), ("then", (ACT, 7)), nested(DEEP, ACT), ("then", (ACT,) * BOOKS)]:
            for purse in (3, -1, None, thing):
                with self.assertRaises(BadBook) as caught:
                    Bench(thing, purse)
                self.assertEqual((caught.exception.place, caught.exception.why), bookfault(thing))
            if not (thing.__class__ is int and thing >= 0):
                for guarded in (True, False):
                    with self.assertRaises(NoPurse) as caught:
                        Bench(ACT, thing, guarded=guarded)
                    self.assertIs(caught.exception.purse, thing)

    def test_guarded_counts_by_its_truth(self):
        for thing in odd_things() + [(), 2]:
            bench = Bench(DOWN, 4, guarded=thing)
            self.assertEqual(bench == Bench(DOWN, 4, guarded=True), bool(thing))
            if thing:
                with self.assertRaises(Doomed):
                    bench.gift(0)
            else:
                self.assertEqual(bench.gift(0), 4)
        # it may stand unsafe from its making
        self.assertIs(Bench(DOWN, 4, guarded=True).is_safe(), False)
        self.assertEqual(Bench(DOWN, 4), Bench(DOWN, 4, guarded=False))


class Deeds(Refusing):
    def test_go(self):
        bench = Bench(TWO, 3)
        self.assertEqual(bench.go((0,)), 6)
        self.assertEqual(bench.go((1,)), 2)
        self.assertEqual(bench.deeds(), (("go", ((0,),)), ("go", ((1,),))))
        self.assertEqual(bench.log(), (("did", "go"), ("did", "go")))
        self.assertIs(bench.is_ended(), True)
        self.assertEqual(str(bench), "purse 2, 2 of 2 acts")

    def test_go_refused(self):
        bench = Bench(TWO, 1)
        for thing in odd_things() + [(), (1,), (0, 0), [0], (True,), (False,), (2,), (-1,)]:
            self.refuse(bench, NoWay, {"way": thing}, "go", thing)
        self.refuse(bench, Short, {"at": 0, "lacks": 1}, "go", (0,))
        guarded = Bench(TWO, 1, guarded=True)
        self.refuse(guarded, NoWay, {"way": (1,)}, "go", (1,))
        self.refuse(guarded, Short, {"at": 0, "lacks": 1}, "go", (0,))
        pair = Bench(("beside", (DOWN, ("act", 3, 6))), 5, guarded=True)
        self.refuse(pair, Doomed, {"lacks": 2}, "go", (0,))
        self.assertEqual(pair.go((1,)), 8)
        self.assertEqual(pair.go((0,)), 4)

    def test_stretch(self):
        book = ("beside", (("many", COPIES, ACT), TWO))
        bench = Bench(book, 3)
        self.assertEqual(bench.stretch((0, 0)), 6)
        self.assertEqual(bench.stretch((1,)), 9)
        self.assertEqual(bench.stretch(()), 9 + 3 * (COPIES - 1))
        self.assertEqual(bench.standing(), (((COPIES, 1),), (1, 0)))
        self.assertEqual(bench.deeds(), (("stretch", ((0, 0),)), ("stretch", ((1,),)), ("stretch", ((),))))

    def test_stretch_refused(self):
        bench = Bench(("beside", (ACT, TWO)), 1, guarded=True)
        for thing in odd_things() + [(2,), (1, 1), (0, 0), [0], (True,), (1, False)]:
            if repr(thing) != "(1,)":
                self.refuse(bench, NoPart, {"place": thing}, "stretch", thing)
        self.refuse(bench, Short, {"at": 0, "lacks": 1}, "stretch", (0,))
        bench = Bench(("beside", (ACT, DOWN)), 1)
        self.refuse(bench, NoStretch, {}, "stretch", (1,))
        bench.gift(1)
        bench.stretch(())
        for place in ((0,), (1,), ()):
            self.refuse(bench, NoStretch, {}, "stretch", place)

    def test_a_stretch_leads_where_stretch_tells(self):
        chance = random.Random(802)
        for book in chance_books(150, 803, most=9, deep=4):
            bench = Bench(book, least(book) + chance.randint(0, 2), guarded=True)
            while not bench.is_ended():
                # from a safe standing no stretch that is borne is refused
                places = [place for place in self.places(book, bench) if stretch(book, bench.standing(), place)]
                borne = [place for place in places if stretch(book, bench.standing(), place)[0] <= bench.holds()]
                if not borne:
                    bench.go(chance.choice(safe_ways(book, bench.standing(), bench.holds())))
                    continue
                place = chance.choice(borne)
                need, leave, after = stretch(book, bench.standing(), place)
                purse = bench.holds() - need + leave
                self.assertEqual(bench.stretch(place), purse)
                self.assertEqual(bench.standing(), after)
            self.assertIs(bench.is_safe(), True)

    def places(self, book, bench):
        """Places that may be of parts under way."""
        found = [()]
        for way in bench.ways():
            for far in range(1, len(way) + 1):
                place = ()
                part = book
                for number in way[:far]:
                    place += (0 if part[0] == "times" else number,)
                    part = part[2] if part[0] in COPIED else part[1][number]
                found.append(place)
        return found

    def test_gift(self):
        bench = Bench(DOWN, 2)
        for more, held in ((3, 5), (-5, 0), (0, 0), (10 ** 59, 10 ** 59), (-(10 ** 59) + 1, 1)):
            self.assertEqual(bench.gift(more), held)
        for thing in odd_things() + [-2, -(10 ** 59), (), 1.0]:
            if thing.__class__ is not int or thing < -1:
                self.refuse(bench, NoPurse, {"purse": thing}, "gift", thing)
        guarded = Bench(DOWN, 5, guarded=True)
        self.refuse(guarded, NoPurse, {"purse": -6}, "gift", -6)
        self.refuse(guarded, Doomed, {"lacks": 2}, "gift", -2)
        self.assertEqual(guarded.gift(3), 8)
        self.assertEqual(guarded.gift(-3), 5)
        unsafe = Bench(DOWN, 1, guarded=True)
        self.refuse(unsafe, Doomed, {"lacks": 1}, "gift", 3)
        self.assertEqual(unsafe.gift(4), 5)

    def test_join_and_follow_at_the_beginning(self):
        bench = Bench(TWO, 3)
        self.assertEqual(bench.join(ACT), 3)
        self.assertEqual(bench.book(), ("beside", (TWO, ACT)))
        self.assertEqual(bench.standing(), ((0, 0), 0))
        self.assertEqual(bench.follow(NONE), 3)
        self.assertEqual(bench.book(), ("then", (("beside", (TWO, ACT)), NONE)))
        self.assertEqual(bench.standing(), (0, ((0, 0), 0)))
        self.assertEqual(bench.deeds(), (("join", (ACT,)), ("follow", (NONE,))))

    def test_join_and_follow_of_what_is_under_way_or_ended(self):
        for book in chance_books(80, 804, most=5):
            journey = Journey(book)
            for standing, done in {journey.standing(done): done for done in journey.states()}.items():
                for new in (TWO, NONE, ("many", 2, ACT)):
                    for word in ("join", "follow"):
                        bench = self.bench_at(journey, done)
                        self.assertEqual(bench.standing(), standing)
                        purse = getattr(bench, word)(new)
                        self.assertEqual(purse, bench.holds())
                        made = Journey(("beside" if word == "join" else "then", (book, new)))
                        self.assertEqual(bench.book(), made.book)
                        self.assertEqual(bench.standing(), made.standing(frozenset((0,) + spot for spot in done)))

    def bench_at(self, journey, done, purse=10 ** 6):
        """A bench in a state of a journey."""
        bench = Bench(journey.book, purse)
        here = journey.start
        while here != done:
            spot = next(spot for spot in journey.free(here) if spot in done)
            bench.go(journey.way(here, spot))
            here = here | {spot}
        return bench

    def test_join_and_follow_refused(self):
        for word in ("join", "follow"):
            bench = Bench(ACT, 3)
            for thing in odd_things() + [(), ("then", (ACT, 7)), nested(DEEP, ACT), ("then", (ACT,) * BOOKS), ("open",)]:
                place, why = bookfault(thing)
                self.refuse(bench, BadBook, {"place": place, "why": why}, word, thing)
            self.refuse(bench, BadBook, {"place": (), "why": "size"}, word, WIDE)
            deep = nested(DEEP - 1, ACT)
            self.refuse(bench, BadBook, {"place": (1,) + (0,) * (DEEP - 1), "why": "deep"}, word, deep)
            deeper = Bench(deep, 3)
            self.refuse(deeper, BadBook, {"place": (0,) * DEEP, "why": "deep"}, word, ACT)
            guarded = Bench(ACT, 3, guarded=True)
            self.refuse(guarded, BadBook, {"place": (), "why": "size"}, word, WIDE)
            self.refuse(guarded, Doomed, {"lacks": 1}, word, ("act", 7, 0))
            self.assertEqual(getattr(guarded, word)(("act", 6, 0)), 3)

    def test_long_ahead_of_all_else(self):
        for guarded in (False, True):
            bench = Bench(TWO, 9, guarded=guarded)
            for turn in range(DEEDS):
                self.assertEqual(bench.gift(1), 10 + turn)
            self.assertEqual(len(bench), DEEDS)
            for thing in (None, (0,), ACT, 0, []):
                for word in ("go", "stretch", "join", "follow", "gift"):
                    self.refuse(bench, Long, {}, word, thing)
                self.refuse(bench, Long, {}, "put", thing, thing)
            self.assertEqual(bench.back(), 9 + DEEDS - 1)
            self.assertEqual(bench.go((0,)), 9 + DEEDS - 1 + 3)
            self.refuse(bench, Long, {}, "go", (1,))

    def test_doomed_last_of_all(self):
        bench = Bench(("beside", (ACT, DOWN)), 0, guarded=True)
        self.assertEqual(bench.lacking(), 2)
        self.refuse(bench, NoWay, {"way": (2,)}, "go", (2,))
        self.refuse(bench, Short, {"at": 0, "lacks": 2}, "go", (0,))
        self.refuse(bench, NoPart, {"place": (2,)}, "stretch", (2,))
        self.refuse(bench, NoStretch, {}, "stretch", (1,))
        self.refuse(bench, Short, {"at": 0, "lacks": 2}, "stretch", (0,))
        self.refuse(bench, NoPlace, {"place": (2,)}, "put", (2,), ACT)
        self.refuse(bench, BadBook, {"place": (), "why": "book"}, "put", (0,), None)
        self.refuse(bench, BadBook, {"place": (), "why": "book"}, "join", None)
        self.refuse(bench, NoPurse, {"purse": -1}, "gift", -1)
        # where it stood unsafe ahead, each deed that leaves it so is refused
        self.refuse(bench, Doomed, {"lacks": 2}, "put", (1,), NONE)
        self.refuse(bench, Doomed, {"lacks": 2}, "join", NONE)
        self.refuse(bench, Doomed, {"lacks": 2}, "follow", NONE)
        self.refuse(bench, Doomed, {"lacks": 1}, "gift", 1)
        self.refuse(bench, Nothing, {}, "back")
        self.assertEqual(bench.join(("act", 0, 2)), 0)
        self.assertIs(bench.is_safe(), True)

    def test_doomed_with_what_lacks(self):
        chance = random.Random(805)
        seen = 0
        for book in chance_books(150, 806, most=6):
            plain = Bench(book, least(book))
            bench = Bench(book, least(book), guarded=True)
            for _ in range(12):
                word, things = self.chance_deed(chance, bench)
                other = plain.twin()
                try:
                    getattr(other, word)(*things)
                except StintError as no:
                    self.refuse(bench, no.__class__, vars(no), word, *things)
                    continue
                if other.lacking() > 0:
                    self.refuse(bench, Doomed, {"lacks": other.lacking()}, word, *things)
                    seen += 1
                else:
                    self.assertEqual(getattr(bench, word)(*things), other.holds())
                    plain = other
                    self.assertEqual(told_of(bench), told_of(plain))
        self.assertGreater(seen, 100)

    def chance_deed(self, chance, bench):
        """A deed by chance, that may be refused."""
        word = chance.choice(WORDS)
        if word == "go":
            return word, (chance.choice(bench.ways() or ((),)),)
        if word == "stretch":
            return word, (chance.choice(self.places(bench.book(), bench)),)
        if word == "gift":
            return word, (chance.randint(-3, 2),)
        new = chance_book(chance, 1, 2)
        if word == "put":
            return word, (chance.choice(places_of(bench.book())), new)
        return word, (new,)

    def test_back_of_each_deed_to_the_first(self):
        chance = random.Random(807)
        for book in chance_books(60, 808, most=8):
            for guarded in (False, True):
                bench = Bench(book, least(book) + 3, guarded=guarded)
                states = []
                for _ in range(25):
                    before = told_of(bench)
                    word, things = self.chance_deed(chance, bench)
                    try:
                        getattr(bench, word)(*things)
                    except StintError:
                        self.assertEqual(told_of(bench), before)
                        continue
                    states.append(before)
                    self.assertEqual(bench.deeds()[-1], (word, things))
                    self.assertEqual(len(bench), len(states))
                while states:
                    before = states.pop()
                    self.assertEqual(bench.back(), before[2])
                    self.assertEqual(told_of(bench), before)
                    self.assertEqual(bench.log()[-1], ("did", "back"))
                self.refuse(bench, Nothing, {}, "back")

    def test_back_is_never_doomed(self):
        bench = Bench(DOWN, 1, guarded=True)
        bench.gift(5)
        self.assertEqual(bench.back(), 1)
        self.assertEqual(bench.lacking(), 4)


class Putting(Refusing):
    def instances(self, book, place):
        """The ways to all copies of the part at a place, one where there are none."""
        ways_in = [()]
        for number in place:
            many = range(max(1, book[1])) if book[0] in COPIED else (number,)
            ways_in = [way + (copy,) for way in ways_in for copy in many]
            book = inner_books(book)[number]
        return ways_in

    def is_begun(self, book, done, place):
        return any(
            spot[:len(way)] == way or stands_ahead(book, way, spot)
            for way in self.instances(book, place) for spot in done
        )

    def test_against_the_acts_that_are_done(self):
        chance = random.Random(809)
        begun = free = 0
        for book in chance_books(160, 810, most=6):
            journey = Journey(book)
            for standing, done in {journey.standing(done): done for done in journey.states()}.items():
                bench = Deeds.bench_at(self, journey, done)
                for place in places_of(book):
                    new = chance.choice((ACT, NONE, TWO, ("many", 2, TWO), ("times", 0, ACT), ("times", 2, NONE)))
                    if self.is_begun(book, done, place):
                        self.refuse(bench, Begun, {"place": place}, "put", place, new)
                        begun += 1
                        continue
                    free += 1
                    self.assertEqual(bench.put(place, new), bench.holds(), (book, standing, place))
                    made = Journey(changed(book, place, new))
                    self.assertEqual(bench.book(), made.book)
                    self.assertEqual(bench.standing(), made.standing(done), (book, standing, place, new))
                    self.assertEqual(bench.deeds()[-1], ("put", (place, new)))
                    bench.back()
        self.assertGreater(min(begun, free), 500)

    def test_parts_without_acts_and_without_copies(self):
        empty = ("times", 0, ACT)
        book = ("then", (empty, ACT, NONE, DOWN))
        bench = Bench(book, 50)
        for place in ((0,), (0, 0), (2,)):
            bench.put(place, ACT)
            bench.back()
        bench.go((1,))
        for place in ((0,), (0, 0), (1,), ()):
            self.refuse(bench, Begun, {"place": place}, "put", place, ACT)
        bench.put((2,), ACT)
        self.assertEqual(bench.standing(), (2, 0))
        bench.back()
        bench.go((3,))
        for place in ((0,), (0, 0), (1,), (2,), (3,), ()):
            self.refuse(bench, Begun, {"place": place}, "put", place, ACT)

    def test_behind_the_last_act_of_a_copy(self):
        book = ("times", 3, ("then", (ACT, NONE)))
        bench = Bench(book, 50)
        bench.go((0, 0))
        self.assertEqual(bench.standing(), (1, (0, 0)))
        # no act behind it is done yet, so the first copy has to do it, too
        bench.put((0, 1), DOWN)
        self.assertEqual(bench.standing(), (0, (1, 0)))
        bench.back()
        bench.go((1, 0))
        self.refuse(bench, Begun, {"place": (0, 1)}, "put", (0, 1), DOWN)

    def test_far_copies(self):
        book = ("beside", (("times", COPIES, ("then", (ACT, NONE))), ("many", COPIES, TWO)))
        bench = Bench(book, 50)
        bench.put((0, 0, 1), DOWN)
        self.assertEqual(bench.standing(), begin(bench.book()))
        bench.put((1, 0, 1), ACT)
        bench.go((1, 0, 0))
        self.assertEqual(bench.standing()[1], ((COPIES - 1, (0, 0)), (1, (1, 0))))
        # no copy has begun it
        bench.put((1, 0, 1), DOWN)
        self.assertEqual(bench.standing()[1], ((COPIES - 1, (0, 0)), (1, (1, 0))))
        bench.put((1, 0, 1), NONE)
        self.assertEqual(bench.standing()[1], ((COPIES - 1, (0, 0)), (1, (2, None))))
        bench.put((1, 0, 1), TWO)
        self.assertEqual(bench.standing()[1], ((COPIES - 1, (0, 0)), (1, (1, (0, 0)))))
        self.refuse(bench, Begun, {"place": (1, 0, 0)}, "put", (1, 0, 0), ACT)
        bench.go((0, 0, 0))
        self.refuse(bench, Begun, {"place": (0, 0, 0)}, "put", (0, 0, 0), ACT)
        bench.put((0, 0, 1), NONE)
        self.assertEqual(bench.standing()[0], (1, (0, 0)))
        bench.go((0, 1, 0))
        self.refuse(bench, Begun, {"place": (0, 0, 1)}, "put", (0, 0, 1), ACT)

    def test_runs_that_come_to_stand_alike(self):
        book = ("many", 5, ("beside", (("then", (ACT, NONE)), ("then", ()))))
        bench = Bench(book, 50)
        bench.go((0, 0, 0))
        bench.put((0, 0, 1), DOWN)
        self.assertEqual(bench.standing(), ((4, ((0, 0), (0, None))), (1, ((1, 0), (0, None)))))
        self.assertIs(is_standing(bench.book(), bench.standing()), True)

    def test_all_of_it(self):
        bench = Bench(TWO, 5)
        bench.put((), ("many", COPIES, ACT))
        self.assertEqual(bench.standing(), ((COPIES, 0),))
        bench.go((0,))
        self.refuse(bench, Begun, {"place": ()}, "put", (), TWO)

    def test_refused_in_their_order(self):
        bench = Bench(("then", (ACT, ("times", 2, DOWN))), 5)
        bench.go((0,))
        for thing in odd_things() + [(2,), (0, 0), (1, 1), [0], (True,), (1, False)]:
            if repr(thing) != "(1,)":
                for new in (None, ACT, ()):
                    self.refuse(bench, NoPlace, {"place": thing}, "put", thing, new)
        for new in (None, ACT, ()):
            self.refuse(bench, Begun, {"place": (0,)}, "put", (0,), new)
        for thing in odd_things() + [(), ("then", (ACT, 7)), nested(DEEP, ACT), ("then", (ACT,) * BOOKS), ("open",)]:
            place, why = bookfault(thing)
            self.refuse(bench, BadBook, {"place": place, "why": why}, "put", (1, 0), thing)
        self.refuse(bench, BadBook, {"place": (), "why": "size"}, "put", (1, 0), WIDE)
        deep = nested(DEEP - 1, ACT)
        self.refuse(bench, BadBook, {"place": (1,) + (0,) * (DEEP - 1), "why": "deep"}, "put", (1,), deep)
        far = ("many", COPIES, ACT)
        self.refuse(bench, BadBook, {"place": (1, 0), "why": "copies"}, "put", (1, 0), far)
        guarded = Bench(TWO, 3, guarded=True)
        self.refuse(guarded, Doomed, {"lacks": 1}, "put", (1,), ("act", 7, 0))


class Asked(Refusing):
    def look(self, bench):
        """Each question against the functions of the same book, standing and purse."""
        book, standing, purse = bench.book(), bench.standing(), bench.holds()
        self.assertEqual(bench.left(), rest(book, standing))
        self.assertEqual(bench.ways(), ways(book, standing))
        self.assertIs(bench.is_safe(), safe(book, standing, purse))
        self.assertEqual(bench.lacking(), lacks(book, standing, purse))
        self.assertIs(bench.is_ended(), is_ended(book, standing))
        done = acts_in(book) - acts_in(rest(book, standing))
        self.assertEqual(str(bench), f"purse {purse}, {done} of {acts_in(book)} acts")
        self.assertEqual(len(bench), len(bench.deeds()))
        for told in told_of(bench) + (bench.log(),):
            self.assertTrue(is_told(told), told)
        self.assertEqual(told_of(bench), told_of(bench))

    def test_by_chance(self):
        chance = random.Random(811)
        for book in chance_books(40, 812, most=30) + far_books():
            bench = Bench(book, 40)
            for _ in range(10):
                self.look(bench)
                word, things = Deeds.chance_deed(self, chance, bench)
                try:
                    purse = getattr(bench, word)(*things)
                except StintError:
                    continue
                self.assertEqual(purse, bench.holds())
                self.assertTrue(is_told(purse))
                self.assertIs(is_standing(bench.book(), bench.standing()), True)

    places = Deeds.places

    def test_gone_act_by_act(self):
        chance = random.Random(813)
        for book in chance_books(80, 814, most=12):
            bench = Bench(book, 10 ** 6)
            standing = begin(book)
            while bench.ways():
                way = chance.choice(bench.ways())
                standing = gone(book, standing, way)
                need, leave = act_at(book, way)
                self.assertEqual(bench.go(way), bench.holds())
                self.assertEqual(bench.standing(), standing)
                self.assertEqual(bench.holds(), 10 ** 6 + got(book, standing))
                self.assertTrue(0 <= need and 0 <= leave)
            self.assertIs(bench.is_ended(), True)
            self.assertEqual(bench.deeds(), tuple(("go", things) for _, things in bench.deeds()))

    def test_things_as_handed_in(self):
        bench = Bench(("then", (ACT, NONE)), 9)
        way, place, part, new, last = (0,), (1,), ("act", 1, 1), ("act", 2, 2), ("act", 3, 3)
        bench.put(place, part)
        bench.go(way)
        bench.join(new)
        bench.follow(last)
        bench.gift(-1)
        bench.stretch(()) if stretch(bench.book(), bench.standing(), ()) else None
        self.assertEqual(bench.deeds(), (
            ("put", (place, part)), ("go", (way,)), ("join", (new,)), ("follow", (last,)), ("gift", (-1,)),
        ))
        self.assertIs(bench.deeds()[0][1][1], part)
        self.assertIs(bench.deeds()[1][1][0], way)

    def test_log(self):
        bench = Bench(TWO, 2)
        wanted = []
        for turn in range(LOG + 30):
            if turn % 3 == 0:
                bench.gift(1)
                wanted.append(("did", "gift"))
            elif turn % 3 == 1:
                bench.back()
                wanted.append(("did", "back"))
            else:
                with self.assertRaises(Nothing):
                    bench.back()
                wanted.append(("no", "back", "Nothing"))
            self.assertEqual(bench.log(), tuple(wanted[-LOG:]))
        self.assertEqual(len(bench.log()), LOG)

    def test_twin(self):
        bench = Bench(TWO, 9, guarded=True)
        bench.go((0,))
        with self.assertRaises(NoWay):
            bench.go((0,))
        twin = bench.twin()
        self.assertEqual(twin, bench)
        self.assertEqual((told_of(twin), twin.log()), (told_of(bench), bench.log()))
        before = (told_of(bench), bench.log())
        twin.go((1,))
        twin.join(ACT)
        with self.assertRaises(Doomed):
            twin.gift(-twin.holds())
        self.assertEqual((told_of(bench), bench.log()), before)
        self.assertEqual(len(twin), 3)
        self.assertEqual(len(twin.log()), 5)
        self.assertNotEqual(twin, bench)
        for _ in range(3):
            twin.back()
        self.assertEqual(twin.standing(), begin(TWO))
        before = (told_of(twin), twin.log())
        bench.back()
        self.assertEqual((told_of(twin), twin.log()), before)
        self.assertEqual(twin, bench)

    def test_equal(self):
        bench = Bench(TWO, 9)
        self.assertEqual(bench, Bench(TWO, 9))
        self.assertNotEqual(bench, Bench(TWO, 8))
        self.assertNotEqual(bench, Bench(("then", (ACT, ACT)), 9))
        self.assertNotEqual(bench, Bench(TWO, 9, guarded=True))
        other = Bench(TWO, 6)
        other.go((0,))
        self.assertNotEqual(bench, other)
        # however it came there
        bench.go((0,))
        other.gift(3)
        self.assertEqual(bench, other)
        self.assertNotEqual(bench.deeds(), other.deeds())
        for thing in odd_things() + [(), told_of(bench), (TWO, (1, 0), 12, False), str(bench)]:
            self.assertIs(bench == thing, False)
            self.assertIs(bench != thing, True)

    def test_len_and_str(self):
        bench = Bench(("many", 3, TWO), 9)
        self.assertEqual((len(bench), str(bench)), (0, "purse 9, 0 of 6 acts"))
        bench.go((0, 0))
        bench.gift(-5)
        self.assertEqual((len(bench), str(bench)), (2, "purse 7, 1 of 6 acts"))
        self.assertEqual(str(Bench(ACT, 0)), "purse 0, 0 of 1 acts")
        self.assertEqual(str(Bench(NONE, 3)), "purse 3, 0 of 0 acts")
        far = Bench(("many", COPIES, ACT), 2)
        far.stretch(())
        self.assertEqual(str(far), f"purse {2 + 3 * COPIES}, {COPIES} of {COPIES} acts")

    def test_nothing_handed_in_is_changed(self):
        for first, second in itertools.product(odd_things()[:12], repeat=2):
            bench = Bench(TWO, 9)
            for word in ("go", "stretch", "join", "follow", "gift"):
                kept = copy.deepcopy(first)
                try:
                    getattr(bench, word)(first)
                except StintError:
                    pass
                self.assertEqual(repr(first), repr(kept))
            kept = copy.deepcopy((first, second))
            try:
                bench.put(first, second)
            except StintError:
                pass
            self.assertEqual(repr((first, second)), repr(kept))

    def test_a_book_of_a_bench_is_one(self):
        chance = random.Random(815)
        for book in chance_books(30, 816, most=12):
            bench = Bench(book, 60)
            for _ in range(30):
                word, things = Deeds.chance_deed(self, chance, bench)
                try:
                    getattr(bench, word)(*things)
                except StintError:
                    continue
                self.assertIsNone(bookfault(bench.book()))
                self.assertIsNotNone(part_at(bench.book(), ()))
                self.assertIs(is_standing(bench.book(), bench.standing()), True)


if __name__ == "__main__":
    unittest.main()
