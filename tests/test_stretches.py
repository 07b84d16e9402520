"""[8], [9], [10]: a row's cut."""

import random
import unittest

from samples import FAR, asked_twice, chance_rows, has_whole_numbers_only, odd_things, small_rows, spoiled
from stintpurse.bounds import ROW
from stintpurse.pairs import dips, heights, turned_row, whole
from stintpurse.stretches import cut, stretches_hold


def plain_up(row):
    """How long the first up is, by a look at all beginnings; 0 where there is none."""
    tall, deep = heights(row), dips(row)
    above = [k for k in range(len(row) + 1) if tall[k] > 0]
    if not above:
        return 0
    greatest = max(min(deep[:k]) for k in above)
    counting = [k for k in above if min(deep[:k]) == greatest]
    highest = max(tall[k] for k in counting)
    return max(k for k in counting if tall[k] == highest)


def plain_ups(row):
    """All ups, each the first one of what is left."""
    ups, start = [], 0
    many = plain_up(row)
    while many:
        ups.append((start, start + many))
        start += many
        many = plain_up(row[start:])
    return tuple(ups)


def plain_cut(row):
    """The cut as the sentences say."""
    ups = plain_ups(row)
    start = ups[-1][1] if ups else 0
    end = start + max(k for k, height in enumerate(heights(row[start:])) if height == 0)
    size = len(row)
    downs = [(size - last, size - first) for first, last in plain_ups(turned_row(row[end:]))]
    return (ups, (start, end), tuple(reversed(downs)))


def long_rows():
    """Rows of ROW pairs of several kinds."""
    chance = random.Random(11)
    return [
        ((0, 0),) * ROW, ((1, 2),) * ROW, ((2, 1),) * ROW, ((3, 3),) * ROW, ((2, 5), (5, 2)) * (ROW // 2),
        tuple((3 * k, 3 * k + 2) for k in range(ROW)), tuple((3 * k + 2, 3 * k) for k in reversed(range(ROW))),
        tuple((chance.randint(0, 99), chance.randint(0, 99)) for _ in range(ROW)),
        tuple((chance.randint(0, 9), chance.randint(0, 12)) for _ in range(ROW)),
        tuple((chance.randint(0, 12), chance.randint(0, 9)) for _ in range(ROW)),
    ]


class Cuts(unittest.TestCase):
    def test_told_rows(self):
        for row, told in (
            ((), ((), (0, 0), ())),
            (((0, 0),), ((), (0, 1), ())),
            (((2, 5),), (((0, 1),), (1, 1), ())),
            (((5, 2),), ((), (0, 0), ((0, 1),))),
            (((4, 4),), ((), (0, 1), ())),
            # Noughts and what dips no deeper go with an up, as it is the longest.
            (((2, 5), (0, 0), (5, 5)), (((0, 3),), (3, 3), ())),
            (((2, 5), (6, 6)), (((0, 1),), (1, 2), ())),
            # The same dip twice is one up, a deeper one begins the next.
            (((1, 2), (2, 3)), (((0, 2),), (2, 2), ())),
            (((1, 2), (3, 4)), (((0, 1), (1, 2)), (2, 2), ())),
            (((2, 0), (0, 5), (1, 1), (9, 0)), (((0, 3),), (3, 3), ((3, 4),))),
            # A lesser height on the way is passed over where the dip stays.
            (((0, 5), (3, 1), (1, 6)), (((0, 3),), (3, 3), ())),
            (((0, 5), (9, 1), (1, 6)), (((0, 1),), (1, 1), ((1, 3),))),
            (((4, 3), (2, 1)), ((), (0, 0), ((0, 1), (1, 2)))),
            (((3, 2), (2, 1)), ((), (0, 0), ((0, 2),))),
            (((1, 0), (0, 1), (1, 0)), ((), (0, 2), ((2, 3),))),
        ):
            self.assertEqual(asked_twice(self, cut, row), told, row)

    def test_against_a_plain_look_at_all_beginnings(self):
        for row in small_rows() + chance_rows(600, 12) + chance_rows(300, 13, 25, 3):
            self.assertEqual(cut(row), plain_cut(row), row)

    def test_far_numbers(self):
        for row in (((FAR, FAR + 1), (FAR + 1, FAR + 2), (FAR + 4, 0)), ((FAR, 0), (0, FAR), (1, 0))):
            self.assertEqual(asked_twice(self, cut, row), plain_cut(row))

    def test_long_rows(self):
        for row in long_rows():
            self.assertEqual(cut(row), plain_cut(row))

    def test_what_is_told_of_the_stretches(self):
        for row in small_rows() + chance_rows(300, 14) + long_rows():
            ups, (first, last), downs = cut(row)
            numbers = [number for start, end in ups for number in whole(row[start:end])]
            self.assertTrue(all(one < other for one, other in zip(numbers, numbers[1:])), row)
            numbers = [number for start, end in downs for number in whole(row[start:end])]
            self.assertTrue(all(one > other for one, other in zip(numbers, numbers[1:])), row)
            need, leave = whole(row[first:last])
            self.assertEqual(need, leave)
            at = 0
            for start, end in (*ups, (first, last), *downs):
                self.assertEqual(start, at)
                self.assertTrue(start < end or (start, end) == (first, last))
                at = end
            self.assertEqual(at, len(row))

    def test_turned_about_its_wholes_stand_turned_about(self):
        for row in small_rows() + chance_rows(300, 15):
            pairs = [tuple(whole(row[start:end]) for start, end in part) for part in cut(row)[::2]]
            turned = turned_row(row)
            backwards = [tuple(whole(turned[start:end]) for start, end in part) for part in cut(turned)[::2]]
            self.assertEqual(backwards, [turned_row(pairs[1]), turned_row(pairs[0])])

    def test_only_tuples_and_whole_numbers(self):
        for row in chance_rows(50, 16):
            self.assertTrue(has_whole_numbers_only(cut(row)))


class Holding(unittest.TestCase):
    def test_just_the_cut_holds(self):
        for row in small_rows()[::3] + chance_rows(60, 17):
            told = cut(row)
            self.assertIs(asked_twice(self, stretches_hold, row, told), True)
            for bad in spoiled(told):
                self.assertIs(stretches_hold(row, bad), False, (row, bad))

    def test_truths_are_no_numbers(self):
        self.assertIs(stretches_hold(((2, 5),), (((0, 1),), (1, 1), ())), True)
        for bad in (
            (((0, True),), (1, 1), ()), (((False, 1),), (1, 1), ()), (((0, 1),), (True, 1), ()),
            (((0, 1),), (True, True), ()),
        ):
            self.assertIs(stretches_hold(((2, 5),), bad), False)

    def test_anything_is_looked_at(self):
        for row in ((), ((0, 0),), ((2, 5), (5, 2))):
            for thing in odd_things():
                self.assertIs(asked_twice(self, stretches_hold, row, thing), False)
                self.assertIs(stretches_hold(row, (thing, thing, thing)), False)
                self.assertIs(stretches_hold(row, ((), thing, ())), False)

    def test_lists_at_each_depth(self):
        row = ((2, 5), (6, 6), (5, 2))
        ups, middle, downs = cut(row)
        for bad in (
            [ups, middle, downs], (list(ups), middle, downs), (ups, list(middle), downs), (ups, middle, list(downs)),
            ((list(ups[0]),), middle, downs), (ups, middle, (list(downs[0]),)),
        ):
            self.assertIs(asked_twice(self, stretches_hold, row, bad), False)

    def test_long_rows(self):
        for row in long_rows():
            self.assertIs(stretches_hold(row, cut(row)), True)
            self.assertIs(stretches_hold(row, cut(row[1:])), False)


if __name__ == "__main__":
    unittest.main()
