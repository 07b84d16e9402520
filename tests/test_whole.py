"""[1], [2], [3]: the whole program together, from a book to its last act."""

import random
import unittest

from samples import is_told
from worlds import ACT, chance_books, chance_company, far_books, row_book, wide_books
from stintpurse.benches import Bench
from stintpurse.best import purse_holds, purse_paper
from stintpurse.books import acts_in, gain_of, turned_book
from stintpurse.bounds import BOOKS, DEEDS
from stintpurse.companies import put
from stintpurse.desk import Desk
from stintpurse.errors import BadBook, Doomed, StintError, TooMany
from stintpurse.formed import form, least
from stintpurse.forms import least_of, turned_form
from stintpurse.fronts import fronts, row_at, rows_through
from stintpurse.going import stretch
from stintpurse.leads import leading
from stintpurse.orders import order_least
from stintpurse.partings import parting, serves
from stintpurse.plans import spelled
from stintpurse.rests import got, rest
from stintpurse.safety import greatest, lacks, reached, safe_ways
from stintpurse.standings import act_at, begin, gone, ways
from stintpurse.texts import book_text, form_text, read_book, read_form


def places_under_way(book, standing):
    """Some places of parts under way: those round the acts that can come next."""
    found = []
    for way in ways(book, standing):
        place = ()
        part = book
        for number in way:
            place += (0 if part[0] == "times" else number,)
            part = part[2] if part[0] in ("times", "many") else part[1][number]
            found.append(place)
    return found + [()]


class ToTheLastAct(unittest.TestCase):
    def test_by_safe_ways_with_the_least_purse(self):
        chance = random.Random(1001)
        for book in chance_books(150, 1002, most=40, deep=4):
            bench = Bench(book, least(book), guarded=True)
            while not bench.is_ended():
                on = safe_ways(bench.book(), bench.standing(), bench.holds())
                self.assertGreater(len(on), 0, (book, bench.standing()))
                for way in bench.ways():
                    if way not in on:
                        with self.assertRaises(StintError):
                            bench.go(way)
                bench.go(chance.choice(on))
            self.assertEqual(bench.holds(), least(book) + gain_of(book))
            self.assertEqual(len(bench), acts_in(book))
            self.assertEqual(str(bench), f"purse {bench.holds()}, {acts_in(book)} of {acts_in(book)} acts")

    def test_by_the_order_of_a_best_plan(self):
        for book in chance_books(150, 1003, most=30):
            purse, plan, paper = purse_paper(book)
            self.assertTrue(purse_holds(book, (purse, plan, paper)))
            order = spelled(book, plan)
            self.assertEqual(order_least(book, order), purse)
            self.assertEqual(leading(book, order), ())
            held = purse
            for spot in order:
                need, leave = act_at(book, spot)
                self.assertGreaterEqual(held, need)
                held += leave - need
            self.assertEqual(held, purse + gain_of(book))

    def test_with_one_less_not(self):
        for book in chance_books(150, 1004, fewest=1, most=6):
            if least(book) == 0:
                continue
            self.assertEqual(rows_through(book, least(book) - 1), 0)
            self.assertGreater(rows_through(book, least(book)), 0)
            bench = Bench(book, least(book) - 1, guarded=True)
            self.assertEqual(bench.lacking(), 1)
            for way in bench.ways():
                with self.assertRaises(StintError):
                    bench.go(way)
            for place in places_under_way(book, bench.standing()):
                with self.assertRaises(StintError):
                    bench.stretch(place)
            self.assertEqual(bench.gift(1), least(book))

    def test_rows_are_borne(self):
        for book in chance_books(60, 1005, fewest=1, most=7):
            purse = least(book)
            for number in {0, rows_through(book, purse) - 1}:
                bench = Bench(book, purse, guarded=True)
                for way in row_at(book, purse, number):
                    bench.go(way)
                self.assertTrue(bench.is_ended())

    def test_stretches_and_safe_ways_by_draws(self):
        chance = random.Random(1006)
        for book in chance_books(120, 1007, most=60, deep=4) + [wide for wide in wide_books() if acts_in(wide) < 100]:
            bench = Bench(book, least(book) + chance.randint(0, 1), guarded=True)
            while not bench.is_ended():
                here = bench.standing()
                told = [(place, stretch(book, here, place)) for place in places_under_way(book, here)]
                borne = [place for place, one in told if one is not None and one[0] <= bench.holds()]
                if borne and chance.randint(0, 2):
                    bench.stretch(chance.choice(borne))
                else:
                    bench.go(chance.choice(safe_ways(book, here, bench.holds())))
            self.assertEqual(bench.holds() - bench.twin().holds(), 0)

    def test_far_copies_by_stretches(self):
        """What gains is done by few deeds, however many copies there are."""
        for book in far_books():
            bench = Bench(book, least(book), guarded=True)
            while len(bench) < DEEDS:
                told = stretch(book, bench.standing(), ())
                if told is None or told[0] > bench.holds():
                    break
                self.assertEqual(bench.stretch(()), bench.holds())
            self.assertLess(len(bench), 5)
            self.assertEqual(bench.holds(), greatest(book, begin(book), least(book)))
            self.assertEqual(reached(book, begin(book), least(book))[1], bench.holds())
            self.assertTrue(bench.is_safe())

    def test_changed_on_the_way(self):
        chance = random.Random(1008)
        for book in chance_books(60, 1009, most=15):
            bench = Bench(book, least(book) + 4, guarded=True)
            for new in chance_books(6, chance.randint(0, 10 ** 6), most=4, deep=1):
                word = chance.choice(("join", "follow"))
                try:
                    getattr(bench, word)(new)
                except (Doomed, BadBook):
                    bench.gift(10)
                on = safe_ways(bench.book(), bench.standing(), bench.holds())
                if on:
                    bench.go(chance.choice(on))
            while not bench.is_ended():
                bench.go(chance.choice(safe_ways(bench.book(), bench.standing(), bench.holds())))
            gifts = sum(things[0] for word, things in bench.deeds() if word == "gift")
            self.assertEqual(bench.holds(), least(book) + 4 + gifts + gain_of(bench.book()))


class ByAllFronts(unittest.TestCase):
    """Books of more acts, gone through by all their standings."""

    def books(self):
        for book in chance_books(400, 1018, fewest=8, deep=4, copies=(1, 2, 3, 5)):
            try:
                yield book, fronts(book, most=150)
            except TooMany:
                continue

    def steps(self, book, told):
        """Of each front, by its number, (way, pair, number behind it) of all ways on."""
        numbers = {standing: number for number, standing in enumerate(told)}
        return [
            [(way, act_at(book, way), numbers[gone(book, standing, way)]) for way in ways(book, standing)]
            for standing in told
        ]

    def wanted_from(self, steps, gains, first):
        """{number: the least purse with which some acts lead from the first front to that one}."""
        wanted = {first: 0}
        for here in range(first, len(steps)):
            for _, pair, behind in steps[here] if here in wanted else ():
                asked = max(wanted[here], pair[0] - gains[here] + gains[first])
                wanted[behind] = min(asked, wanted.get(behind, asked))
        return wanted

    def test_safe_greatest_and_stretches(self):
        chance = random.Random(1019)
        seen = 0
        for book, told in self.books():
            steps = self.steps(book, told)
            gains = [got(book, standing) for standing in told]
            for first in chance.sample(range(len(told)), min(4, len(told))):
                standing = told[first]
                wanted = self.wanted_from(steps, gains, first)
                need = wanted[len(told) - 1]
                self.assertEqual(lacks(book, standing, 0), need)
                for purse in (0, need, need + 3):
                    most = max(gains[here] for here in wanted if wanted[here] <= purse) - gains[first]
                    far, held = reached(book, standing, purse)
                    self.assertEqual((held, greatest(book, standing, purse)), (purse + most, purse + most))
                    self.assertLessEqual(wanted[told.index(far)], purse)
                above = [wanted[here] for here in wanted if gains[here] > gains[first]]
                one = stretch(book, standing, ())
                self.assertEqual(one is None, not above)
                if one is not None:
                    after = told.index(one[2])
                    self.assertEqual((one[0], wanted[after]), (min(above), min(above)))
                    self.assertEqual(one[1] - one[0], gains[after] - gains[first])
                    best = max(gains[here] for here in wanted if wanted[here] <= one[0])
                    self.assertEqual(best, gains[after])
                seen += 1
        self.assertGreater(seen, 400)


class Promises(unittest.TestCase):
    def test_a_form_is_all_that_a_company_sees(self):
        chance = random.Random(1010)
        for book in chance_books(150, 1011, deep=2, widest=2):
            other = row_book(book)
            self.assertEqual(form(other), form(book))
            self.assertIsNone(parting(book, other))
            self.assertTrue(serves(book, other) and serves(other, book))
            company = chance_company(chance, 3)
            try:
                self.assertEqual(form(put(company, book)), form(put(company, other)))
            except BadBook as no:
                self.assertEqual(no.why, "size")

    def test_what_is_left_is_a_book_like_others(self):
        chance = random.Random(1012)
        for book in chance_books(80, 1013, most=20):
            bench = Bench(book, 10 ** 6)
            while not bench.is_ended():
                bench.go(chance.choice(bench.ways()))
                left = bench.left()
                self.assertEqual(lacks(book, bench.standing(), 0), least(left))
                self.assertEqual(least_of(form(left)), least(left))
                self.assertEqual(rest(left, begin(left)), left if acts_in(left) else ("then", ()))

    def test_turned_about(self):
        for book in chance_books(200, 1014, deep=4) + far_books() + wide_books():
            turned = turned_book(book)
            self.assertEqual(form(turned), turned_form(form(book)))
            self.assertEqual(least(turned), least(book) + gain_of(book))
            self.assertEqual(turned_book(turned), book)
            self.assertTrue(purse_holds(turned, purse_paper(turned)))

    def test_turned_about_it_is_borne_backwards(self):
        for book in chance_books(60, 1015, fewest=1, most=6):
            for purse in (least(book), least(book) + 2):
                back = purse + gain_of(book)
                # copies of a many are told apart by how they stand, which turned about they do otherwise
                if "many" not in repr(book):
                    self.assertEqual(rows_through(book, purse), rows_through(turned_book(book), back))

    def test_texts_of_all_that_is_kept(self):
        for book in chance_books(100, 1016, deep=4):
            self.assertEqual(read_book(book_text(book)), book)
            self.assertEqual(read_form(form_text(form(book))), form(book))

    def test_all_is_told_in_tuples(self):
        for book in chance_books(40, 1017, fewest=1, most=12):
            standing = begin(book)
            purse = least(book)
            for told in (
                purse_paper(book), form(book), standing, ways(book, standing), rest(book, standing),
                safe_ways(book, standing, purse), stretch(book, standing, ()), reached(book, standing, purse),
            ):
                self.assertTrue(is_told(told), told)

    def test_a_desk_from_a_text_to_the_last_act(self):
        desk = Desk()
        desk.say("book work 3*(2/5|4&5/4)")
        purse = desk.say("least work")
        self.assertEqual(desk.run(("acts work", f"guard work {purse}", "safe work")), ("15", "done", "yes"))
        while desk.say("ways work") != "-":
            answers = [desk.say(f"go work {way}") for way in desk.say("ways work").split(" ")]
            self.assertTrue(any(not answer.startswith("no") for answer in answers))
        self.assertEqual(desk.say("at work"), "3:")
        self.assertEqual(desk.say("gift work 0"), str(int(purse) + gain_of(read_book("3*(2/5|4&5/4)"))))

    def test_as_many_books_as_there_may_be(self):
        book = ("beside", (ACT,) * (BOOKS - 1))
        bench = Bench(book, least(book), guarded=True)
        self.assertEqual(bench.stretch(()), 2 + 3 * (BOOKS - 1))
        self.assertTrue(bench.is_ended())


if __name__ == "__main__":
    unittest.main()
