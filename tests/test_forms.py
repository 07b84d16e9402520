"""[11], [12]: forms."""

import unittest

from samples import FAR, asked_twice, chance_forms, chance_rows, long_form, odd_things, small_rows, spoiled
from stintpurse.bounds import ROW
from stintpurse.forms import fall, form_of, form_row, is_form, least_of, rise, turned_form
from stintpurse.pairs import dips, turned_row, whole
from stintpurse.stretches import cut

GOOD = (((1, 3), (4, 6)), 9, ((8, 7), (5, 2)))


def plain_is_form(thing):
    """A form of tuples, numbers and whatever else, clause by clause."""
    def number(part):
        return part.__class__ is int

    if thing.__class__ is not tuple or len(thing) != 3:
        return False
    up, top, down = thing
    for pairs in (up, down):
        if pairs.__class__ is not tuple:
            return False
        for pair in pairs:
            if pair.__class__ is not tuple or len(pair) != 2 or not (number(pair[0]) and number(pair[1])):
                return False
            if pair[0] < 0 or pair[1] < 0:
                return False
    flat_up = [part for pair in up for part in pair]
    flat_down = [part for pair in down for part in pair]
    return (
        number(top) and top >= 0 and flat_up == sorted(set(flat_up))
        and flat_down == sorted(set(flat_down), reverse=True)
        and (not up or top >= up[-1][1]) and (not down or top >= down[0][0])
    )


class Looks(unittest.TestCase):
    def test_forms(self):
        for form in (
            ((), 0, ()), ((), 5, ()), (((0, 1),), 1, ()), ((), 1, ((1, 0),)), GOOD, (((1, 2),), 2, ((2, 1),)),
            (((FAR, FAR + 1),), FAR + 1, ((FAR, 0),)), long_form(ROW), (((0, 1), (2, 3)), 3, ((3, 2), (1, 0))),
        ):
            self.assertIs(asked_twice(self, is_form, form), True, form)

    def test_each_edge(self):
        for form, holds in (
            ((((1, 1),), 9, ()), False),
            ((((1, 2),), 9, ()), True),
            ((((2, 1),), 9, ()), False),
            ((((1, 2), (2, 3)), 9, ()), False),
            ((((1, 2), (3, 4)), 9, ()), True),
            ((((1, 3), (2, 4)), 9, ()), False),
            ((((3, 4), (1, 2)), 9, ()), False),
            ((((1, 2), (3, 3)), 9, ()), False),
            (((), 9, ((1, 1),)), False),
            (((), 9, ((2, 1),)), True),
            (((), 9, ((1, 2),)), False),
            (((), 9, ((3, 2), (2, 1))), False),
            (((), 9, ((4, 3), (2, 1))), True),
            (((), 9, ((4, 2), (3, 1))), False),
            (((), 9, ((2, 1), (4, 3))), False),
            (((), 9, ((4, 3), (2, 2))), False),
            ((((1, 5),), 5, ()), True),
            ((((1, 5),), 4, ()), False),
            ((((1, 5), (6, 7)), 7, ()), True),
            ((((1, 5), (6, 7)), 6, ()), False),
            (((), 5, ((5, 1),)), True),
            (((), 4, ((5, 1),)), False),
            (((), 4, ((5, 4), (3, 1))), False),
            ((((1, 5),), 5, ((6, 2),)), False),
            ((((1, 6),), 5, ((5, 2),)), False),
            ((((1, 6),), 6, ((6, 1),)), True),
            (((), 0, ()), True),
            (((), -1, ()), False),
            ((((-1, 2),), 9, ()), False),
            (((), 9, ((2, -1),)), False),
        ):
            self.assertIs(asked_twice(self, is_form, form), holds, form)

    def test_truths_are_no_numbers(self):
        for thing in (
            ((), False, ()), ((), True, ()), (((False, 1),), 1, ()), (((0, True),), 1, ()), (((0, 1),), True, ()),
            ((), 1, ((True, 0),)), ((), 1, ((1, False),)),
        ):
            self.assertIs(is_form(thing), False, thing)

    def test_anything(self):
        for thing in odd_things() + [((), ()), ((), 0, (), ()), (0, 0, 0), ((), None, ()), ((), "0", ())]:
            self.assertIs(asked_twice(self, is_form, thing), False, thing)
            self.assertIs(asked_twice(self, is_form, (thing, 9, ())), False, thing)
            self.assertIs(asked_twice(self, is_form, ((), 9, thing)), False, thing)
            self.assertIs(is_form(((thing,), 9, ())), False, thing)
            self.assertIs(is_form(((), 9, (thing,))), False, thing)

    def test_spoiled_forms(self):
        for form in [GOOD, ((), 0, ()), (((0, 1),), 1, ((1, 0),))] + chance_forms(60, 21):
            self.assertIs(is_form(form), True, form)
            for bad in spoiled(form):
                self.assertIs(is_form(bad), plain_is_form(bad), bad)


class Parts(unittest.TestCase):
    def test_told_ones(self):
        self.assertEqual(form_row(GOOD), ((1, 3), (4, 6), (9, 9), (8, 7), (5, 2)))
        self.assertEqual((rise(GOOD), fall(GOOD), least_of(GOOD)), (4, 4, 5))
        self.assertEqual(turned_form(GOOD), (((2, 5), (7, 8)), 9, ((6, 4), (3, 1))))
        nothing = ((), 0, ())
        self.assertEqual((rise(nothing), fall(nothing), least_of(nothing)), (0, 0, 0))
        self.assertEqual(form_row(nothing), ((0, 0),))
        self.assertEqual(turned_form(nothing), nothing)

    def test_rise_fall_and_least(self):
        for form in chance_forms(200, 22) + [long_form(ROW), long_form(ROW + 1, 7)]:
            row = asked_twice(self, form_row, form)
            self.assertEqual(row, form[0] + ((form[1], form[1]),) + form[2])
            need, leave = whole(row)
            self.assertEqual(asked_twice(self, least_of, form), need)
            self.assertEqual(need, max([0] + [-dip for dip in dips(row)]))
            gained = asked_twice(self, rise, form) - asked_twice(self, fall, form)
            self.assertEqual(gained, leave - need)
            self.assertEqual(rise(form), sum(pair[1] - pair[0] for pair in form[0]))

    def test_turned_form(self):
        for form in chance_forms(200, 23) + [long_form(ROW)]:
            turned = asked_twice(self, turned_form, form)
            self.assertEqual(form_row(turned), turned_row(form_row(form)))
            self.assertEqual(turned_form(turned), form)
            self.assertIs(is_form(turned), True)
            self.assertEqual((rise(turned), fall(turned)), (fall(form), rise(form)))


class FormsOfRows(unittest.TestCase):
    def test_told_ones(self):
        for row, form in (
            ((), ((), 0, ())),
            (((0, 0),), ((), 0, ())),
            (((4, 4),), ((), 4, ())),
            (((2, 5),), (((2, 5),), 5, ())),
            (((5, 2),), ((), 5, ((5, 2),))),
            # top by the middle
            (((2, 5), (8, 8), (6, 1)), (((2, 5),), 8, ((6, 1),))),
            # top by the last M
            (((2, 7), (6, 1)), (((2, 7),), 7, ((6, 1),))),
            (((2, 3), (4, 9), (6, 1), (0, 0)), (((2, 3), (4, 9)), 9, ((6, 1),))),
            # top by the first n
            (((2, 5), (6, 1)), (((2, 5),), 6, ((6, 1),))),
            (((6, 4), (3, 1)), ((), 6, ((6, 4), (3, 1)))),
            # a middle that is lower than the first n
            (((5, 5), (6, 1)), ((), 6, ((6, 1),))),
            (((FAR, FAR + 2), (FAR + 2, 0)), (((FAR, FAR + 2),), FAR + 2, ((FAR + 2, 0),))),
        ):
            self.assertEqual(asked_twice(self, form_of, row), form, row)

    def test_by_the_cut(self):
        for row in small_rows() + chance_rows(300, 24):
            up, top, down = asked_twice(self, form_of, row)
            ups, (first, last), downs = cut(row)
            self.assertEqual(up, tuple(whole(row[start:end]) for start, end in ups))
            self.assertEqual(down, tuple(whole(row[start:end]) for start, end in downs))
            tops = [0] + [pair[1] for pair in up[-1:]] + [pair[0] for pair in down[:1]]
            if first < last:
                tops.append(whole(row[first:last])[0])
            self.assertEqual(top, max(tops))

    def test_they_are_forms_and_need_what_the_row_needs(self):
        for row in small_rows() + chance_rows(300, 25):
            form = form_of(row)
            self.assertIs(is_form(form), True)
            self.assertEqual(whole(form_row(form)), whole(row))
            self.assertEqual(form_of(turned_row(row)), turned_form(form))

    def test_the_form_of_a_forms_row_is_that_form(self):
        forms = chance_forms(400, 26) + [form_of(row) for row in small_rows() + chance_rows(200, 27)]
        for form in forms + [long_form(ROW), long_form(3 * ROW, 5), GOOD, ((), 0, ())]:
            self.assertEqual(form_of(form_row(form)), form)

    def test_what_a_company_sees_of_a_row(self):
        rows = chance_rows(40, 28, 5, 5)
        for row in rows:
            for ahead in rows[:8]:
                for after in rows[8:16]:
                    seen = form_row(form_of(row))
                    self.assertEqual(whole(ahead + seen + after), whole(ahead + row + after))


if __name__ == "__main__":
    unittest.main()
