"""[2], [5], [6], [7]: pairs and rows."""

import unittest

from samples import FAR, asked_twice, chance_rows, odd_things, small_rows
from stintpurse.bounds import ROW
from stintpurse.errors import Short
from stintpurse.pairs import behind, dips, heights, is_pair, is_row, joined, power, turned_row, whole


def first_short(row, purse):
    """(at, lacks) by going through the row, or None where the purse bears it."""
    for at, (need, leave) in enumerate(row):
        if purse < need:
            return (at, need - purse)
        purse = purse - need + leave
    return None


def least_by_trying(row):
    """The least purse that bears a row of small numbers."""
    purse = 0
    while first_short(row, purse) is not None:
        purse += 1
    return purse


class Looks(unittest.TestCase):
    def test_pairs(self):
        for pair in ((0, 0), (1, 0), (0, 1), (3, 3), (FAR, 0), (0, FAR)):
            self.assertIs(asked_twice(self, is_pair, pair), True)

    def test_no_pairs(self):
        things = odd_things() + [
            (), (-1, 0), (0, -1), (True, 0), (0, False), (True, True), [0, 0], (0,), (0, 0, 0), ([0], 0), (0, (0,)),
            "00", ("0", "0"), {0: 0, 1: 1}, (None, 0), (0, None), ((0, 0), (0, 0)),
        ]
        for thing in things:
            self.assertIs(asked_twice(self, is_pair, thing), False, thing)

    def test_rows(self):
        for row in ((), ((0, 0),), ((1, 2), (3, 4)), ((FAR, 1),) * 3, ((1, 2),) * ROW):
            self.assertIs(asked_twice(self, is_row, row), True)
        for row in small_rows()[::7] + chance_rows(40, 1):
            self.assertIs(is_row(row), True, row)

    def test_no_rows(self):
        self.assertIs(is_row(((1, 2),) * (ROW + 1)), False)
        things = odd_things() + [
            [], [(1, 2)], ([1, 2],), ((1, 2), [1, 2]), (1, 2), ((True, 2),), ((1, False),), ((1, 2), (1, -2)),
            ((-1, 2),), ((1, 2, 3),), ((1,),), ((),), (None,), ("ab",), ({1: 2},), (((1, 2), (3, 4)),), {(1, 2): 1},
        ]
        for thing in things:
            self.assertIs(asked_twice(self, is_row, thing), False, thing)

    def test_odd_parts_anywhere_in_a_row(self):
        good = ((1, 2), (3, 4), (5, 6))
        for thing in odd_things():
            for at in range(len(good)):
                self.assertIs(is_row(good[:at] + (thing,) + good[at + 1:]), False, thing)
                self.assertIs(is_row(good[:at] + ((1, thing),) + good[at + 1:]), thing in (0, 1, 10 ** 59)
                              and thing.__class__ is int, thing)


class Purses(unittest.TestCase):
    def check(self, row, purse):
        short = first_short(row, purse)
        if short is None:
            gained = sum(leave - need for need, leave in row)
            self.assertEqual(asked_twice(self, behind, row, purse), purse + gained)
            return
        with self.assertRaises(Short) as caught:
            behind(row, purse)
        self.assertEqual((caught.exception.at, caught.exception.lacks), short)

    def test_behind_at_and_round_the_least(self):
        for row in small_rows() + chance_rows(200, 2):
            least = whole(row)[0]
            for purse in {0, least, max(0, least - 1), least + 1, least + FAR}:
                self.check(row, purse)

    def test_where_it_falls_short(self):
        for row, purse, at, lacks in (
            (((3, 0),), 0, 0, 3),
            (((3, 0),), 2, 0, 1),
            (((1, 0), (1, 0), (1, 0)), 2, 2, 1),
            (((1, 5), (7, 0), (9, 9)), 1, 1, 2),
            (((0, 1), (FAR, 0)), 0, 1, FAR - 1),
            (((2, 0), (9, 0)), 2, 1, 9),
        ):
            with self.assertRaises(Short) as caught:
                behind(row, purse)
            self.assertEqual((caught.exception.at, caught.exception.lacks), (at, lacks))

    def test_whole_tells_the_least_purse_and_what_it_holds(self):
        for row in small_rows() + chance_rows(200, 3):
            need, leave = asked_twice(self, whole, row)
            self.assertIsNone(first_short(row, need))
            if need:
                self.assertIsNotNone(first_short(row, need - 1))
            self.assertEqual(leave, need + sum(pair[1] - pair[0] for pair in row))

    def test_whole_of_told_rows(self):
        for row, pair in (
            ((), (0, 0)),
            (((4, 7),), (4, 7)),
            (((7, 4),), (7, 4)),
            (((0, 0),), (0, 0)),
            (((9, 9), (1, 3), (2, 2)), (9, 11)),
            (((1, 3), (2, 2), (9, 9)), (7, 9)),
            (((1, 3), (9, 8), (2, 2)), (7, 8)),
            (((1, 3), (9, 9), (4, 0)), (7, 5)),
            (((FAR, 0), (0, FAR)), (FAR, FAR)),
        ):
            self.assertEqual(whole(row), pair, row)
            self.assertEqual(whole(row)[0], least_by_trying(row) if whole(row)[0] < FAR else FAR)

    def test_whole_of_a_row_of_row_pairs(self):
        self.assertEqual(whole(((2, 1),) * ROW), (ROW + 1, 1))
        self.assertEqual(whole(((1, 2),) * ROW), (1, ROW + 1))


class Putting(unittest.TestCase):
    def test_joined_is_the_whole_of_both(self):
        pairs = [(need, leave) for need in range(5) for leave in range(5)] + [(FAR, 2), (2, FAR)]
        for one in pairs:
            for other in pairs:
                made = asked_twice(self, joined, one, other)
                need, leave = made
                self.assertIsNone(first_short((one, other), need))
                if need:
                    self.assertIsNotNone(first_short((one, other), need - 1))
                self.assertEqual(leave - need, one[1] - one[0] + other[1] - other[0])

    def test_joined_goes_on_alike(self):
        for row in chance_rows(100, 4):
            for at in range(len(row) + 1):
                self.assertEqual(joined(whole(row[:at]), whole(row[at:])), whole(row))

    def test_power_of_few(self):
        for need in range(5):
            for leave in range(5):
                for k in range(7):
                    told = asked_twice(self, power, (need, leave), k)
                    self.assertEqual(told, whole(((need, leave),) * k))

    def test_power_of_far_ones(self):
        self.assertEqual(power((3, 5), FAR), (3, 3 + 2 * FAR))
        self.assertEqual(power((5, 3), FAR), (3 + 2 * FAR, 3))
        self.assertEqual(power((4, 4), FAR), (4, 4))
        self.assertEqual(power((0, 0), FAR), (0, 0))
        self.assertEqual(power((FAR, 0), FAR), (FAR * FAR, 0))
        self.assertEqual(power((9, 2), 0), (0, 0))
        for pair in ((3, 5), (5, 3), (4, 4)):
            self.assertEqual(power(pair, FAR + 1), joined(power(pair, FAR), pair))

    def test_turned_row(self):
        self.assertEqual(turned_row(()), ())
        self.assertEqual(turned_row(((1, 2), (3, 4))), ((4, 3), (2, 1)))
        for row in small_rows() + chance_rows(100, 5):
            turned = asked_twice(self, turned_row, row)
            self.assertEqual(turned_row(turned), row)
            need, leave = whole(row)
            self.assertEqual(whole(turned), (leave, need))

    def test_turned_rows_are_borne_backwards(self):
        for row in chance_rows(100, 6):
            for purse in (whole(row)[0], whole(row)[0] + 3):
                self.assertEqual(behind(turned_row(row), behind(row, purse)), purse)


class Heights(unittest.TestCase):
    def test_told_ones(self):
        row = ((2, 5), (4, 0), (1, 1))
        self.assertEqual(heights(row), (0, 3, -1, -1))
        self.assertEqual(dips(row), (-2, -1, -2))
        self.assertEqual(heights(()), (0,))
        self.assertEqual(dips(()), ())

    def test_as_the_sentences_say(self):
        for row in small_rows() + chance_rows(100, 7):
            tall = asked_twice(self, heights, row)
            deep = asked_twice(self, dips, row)
            self.assertEqual((len(tall), len(deep)), (len(row) + 1, len(row)))
            for k in range(len(row) + 1):
                self.assertEqual(tall[k], sum(leave - need for need, leave in row[:k]))
            for k in range(len(row)):
                self.assertEqual(deep[k], tall[k] - row[k][0])

    def test_the_least_purse_by_dips(self):
        for row in small_rows() + chance_rows(100, 8):
            self.assertEqual(max([0] + [-dip for dip in dips(row)]), whole(row)[0])


if __name__ == "__main__":
    unittest.main()
