"""[13], [14]: forms put together."""

import itertools
import unittest

from samples import FAR, asked_twice, chance_forms, chance_rows, long_form
from stintpurse.bounds import COPIES, ROW
from stintpurse.forms import fall, form_of, form_row, is_form, least_of, rise, turned_form
from stintpurse.merging import beside_form, many_form, then_form, times_form
from stintpurse.pairs import turned_row, whole

NOTHING = ((), 0, ())


def plain_joining(pairs):
    """The told joining: by N, the least first, each joined to the last one made where its M is no less."""
    made = []
    for need, leave in sorted(pairs, key=lambda pair: pair[0]):
        if made and made[-1][1] >= need:
            made[-1][1] += leave - need
        else:
            made.append([need, leave])
    return tuple((need, leave) for need, leave in made)


def plain_beside(forms):
    """beside_form as the sentences say."""
    up = plain_joining([pair for form in forms for pair in form[0]])
    turned = plain_joining([pair for form in forms for pair in turned_form(form)[0]])
    down = turned_row(turned)
    tops = [0] + [form[1] for form in forms] + [pair[1] for pair in up[-1:]] + [pair[0] for pair in down[:1]]
    return (up, max(tops), down)


def weaves(one, other):
    """All rows that weave two rows."""
    for places in itertools.combinations(range(len(one) + len(other)), len(one)):
        rows = (iter(one), iter(other))
        yield tuple(next(rows[0 if at in places else 1]) for at in range(len(one) + len(other)))


class Then(unittest.TestCase):
    def test_told_ones(self):
        self.assertEqual(asked_twice(self, then_form, ()), NOTHING)
        one = (((0, 5),), 9, ((9, 6),))
        self.assertEqual(then_form((one,)), one)
        self.assertEqual(then_form((one, one)), (((0, 5), (9, 11)), 11, ((9, 6),)))
        self.assertEqual(then_form((((), 3, ()), ((), 4, ()))), ((), 4, ()))

    def test_is_the_form_of_all_rows_one_behind_another(self):
        forms = chance_forms(120, 31)
        for many in (0, 1, 2, 3, 5):
            for at in range(0, len(forms) - many, 2):
                some = tuple(forms[at:at + many])
                row = tuple(pair for form in some for pair in form_row(form))
                told = asked_twice(self, then_form, some)
                self.assertEqual(told, form_of(row))
                self.assertIs(is_form(told), True)

    def test_of_rows(self):
        rows = chance_rows(120, 32, 6)
        for one, other, third in zip(rows, rows[1:], rows[2:]):
            forms = (form_of(one), form_of(other), form_of(third))
            self.assertEqual(then_form(forms), form_of(one + other + third))
            self.assertEqual(then_form((then_form(forms[:2]), forms[2])), then_form(forms))

    def test_long_forms(self):
        one, other = long_form(ROW), long_form(ROW + 50, 3)
        told = then_form((one, other))
        self.assertEqual(told, form_of(form_row(one) + form_row(other)))
        self.assertEqual(then_form((one,)), one)

    def test_turned_about(self):
        forms = chance_forms(60, 33)
        for one, other in zip(forms, forms[1:]):
            self.assertEqual(
                then_form((turned_form(other), turned_form(one))), turned_form(then_form((one, other)))
            )


class Beside(unittest.TestCase):
    def test_told_ones(self):
        for forms, told in (
            ((), NOTHING),
            ((NOTHING, NOTHING), NOTHING),
            (((((2, 5),), 7, ()),), (((2, 5),), 7, ())),
            # the edge where M is just N, and one more
            (((((2, 5),), 5, ()), (((5, 6),), 6, ())), (((2, 6),), 6, ())),
            (((((2, 5),), 5, ()), (((6, 7),), 7, ())), (((2, 5), (6, 7)), 7, ())),
            # a joined one reaches the next
            (((((2, 4), (6, 7)), 7, ()), (((3, 5),), 5, ())), (((2, 7),), 7, ())),
            (((((0, 1),), 1, ()),) * 3, (((0, 3),), 3, ())),
            ((((), 5, ((5, 2),)), ((), 6, ((6, 5),))), ((), 6, ((6, 2),))),
            ((((), 5, ((5, 2),)), ((), 7, ((7, 6),))), ((), 7, ((7, 6), (5, 2)))),
            ((((), 5, ((5, 2),)), ((), 5, ((5, 2),))), ((), 8, ((8, 2),))),
            ((((), 9, ()), ((), 4, ())), ((), 9, ())),
        ):
            self.assertEqual(asked_twice(self, beside_form, forms), told, forms)

    def test_by_the_told_joining_in_whatever_order(self):
        forms = chance_forms(150, 34)
        for many in (1, 2, 3):
            for at in range(0, len(forms) - many, 2):
                some = tuple(forms[at:at + many])
                told = asked_twice(self, beside_form, some)
                self.assertEqual(told, plain_beside(some))
                self.assertIs(is_form(told), True)
                for order in itertools.permutations(some):
                    self.assertEqual(beside_form(order), told)

    def test_one_by_one_and_turned_about(self):
        forms = chance_forms(90, 35)
        for one, other, third in zip(forms, forms[1:], forms[2:]):
            told = beside_form((one, other, third))
            self.assertEqual(beside_form((beside_form((one, other)), third)), told)
            self.assertEqual(beside_form((NOTHING, one, other, third)), told)
            turned = tuple(turned_form(form) for form in (one, other, third))
            self.assertEqual(beside_form(turned), turned_form(told))
            self.assertEqual(beside_form((one,)), one)

    def test_the_least_purse_of_all_weaves(self):
        rows = chance_rows(80, 36, 4, 5)
        for one, other in zip(rows, rows[1:]):
            least = min(whole(row)[0] for row in weaves(one, other))
            self.assertEqual(least_of(beside_form((form_of(one), form_of(other)))), least, (one, other))

    def test_long_forms(self):
        forms = (long_form(ROW), long_form(ROW + 50, 3), long_form(2 * ROW, 1))
        self.assertEqual(beside_form(forms), plain_beside(forms))
        self.assertEqual(beside_form(forms[:1]), forms[0])
        apart = tuple((((5 * k, 5 * k + 2),), 5 * k + 2, ()) for k in range(2 * ROW))
        self.assertEqual(len(beside_form(apart)[0]), 2 * ROW)


class Copies(unittest.TestCase):
    def test_none_and_one(self):
        for form in chance_forms(80, 37) + [long_form(ROW)]:
            self.assertEqual(asked_twice(self, times_form, 0, form), NOTHING)
            self.assertEqual(asked_twice(self, many_form, 0, form), NOTHING)
            self.assertEqual(asked_twice(self, times_form, 1, form), form)
            self.assertEqual(asked_twice(self, many_form, 1, form), form)

    def test_few(self):
        for form in chance_forms(250, 38) + [long_form(ROW, 2)]:
            for k in (2, 3, 4, 7):
                told = asked_twice(self, times_form, k, form)
                self.assertEqual(told, then_form((form,) * k), (k, form))
                self.assertIs(is_form(told), True)
                told = asked_twice(self, many_form, k, form)
                self.assertEqual(told, beside_form((form,) * k), (k, form))
                self.assertIs(is_form(told), True)

    def test_a_second_one_may_begin_an_up_of_its_own(self):
        form = (((0, 5),), 9, ((9, 6),))
        self.assertEqual(times_form(2, form), (((0, 5), (9, 11)), 11, ((9, 6),)))
        self.assertEqual(times_form(FAR, form), (((0, 5), (9, 2 * FAR + 7)), 2 * FAR + 7, ((9, 6),)))
        turned = turned_form(form)
        self.assertEqual(times_form(FAR, turned), turned_form(times_form(FAR, form)))

    def test_far_ones_one_behind_another(self):
        gaining = losing = 0
        for form in chance_forms(250, 39) + [long_form(ROW)]:
            gain = rise(form) - fall(form)
            gaining += gain > 0
            losing += gain < 0
            for k in (COPIES, FAR, FAR * FAR):
                told = times_form(k, form)
                self.assertIs(is_form(told), True)
                self.assertEqual(then_form((told, form)), times_form(k + 1, form))
                self.assertEqual(then_form((form, told)), times_form(k + 1, form))
                self.assertEqual(rise(told) - fall(told), k * gain)
                if gain == 0:
                    self.assertEqual(told, form)
                if gain > 0:
                    up, top, down = then_form((form, form))
                    last = up[-1][1] + (k - 2) * gain
                    self.assertEqual(told, (up[:-1] + ((up[-1][0], last),), max(top, last), down))
                if gain < 0:
                    self.assertEqual(told, turned_form(times_form(k, turned_form(form))))
        self.assertGreater(min(gaining, losing), 20)

    def test_far_ones_beside_one_another(self):
        for form in chance_forms(250, 40) + [long_form(ROW)]:
            up, top, down = form
            for k in (COPIES, FAR, FAR * FAR):
                told = many_form(k, form)
                self.assertIs(is_form(told), True)
                self.assertEqual(beside_form((told, form)), many_form(k + 1, form))
                apart = [(((need, need + k * (leave - need)),), 0, ()) for need, leave in up]
                apart += [((), 0, ((leave + k * (need - leave), leave),)) for need, leave in down]
                self.assertEqual(told, plain_beside(apart + [((), top, ())]))

    def test_told_far_ones(self):
        self.assertEqual(times_form(COPIES, (((2, 5),), 6, ())), (((2, 5), (6, 3 * COPIES + 3)), 3 * COPIES + 3, ()))
        self.assertEqual(times_form(COPIES, (((2, 5),), 5, ())), (((2, 3 * COPIES + 2),), 3 * COPIES + 2, ()))
        self.assertEqual(times_form(COPIES, ((), 5, ((5, 2),))), ((), 3 * COPIES + 2, ((3 * COPIES + 2, 2),)))
        self.assertEqual(times_form(COPIES, ((), 5, ())), ((), 5, ()))
        self.assertEqual(many_form(COPIES, ((), 5, ())), ((), 5, ()))
        form = (((2, 3), (9, 10)), 30, ((5, 4),))
        self.assertEqual(many_form(7, form), (((2, 16),), 30, ((11, 4),)))
        self.assertEqual(many_form(6, form), (((2, 8), (9, 15)), 30, ((10, 4),)))


if __name__ == "__main__":
    unittest.main()
