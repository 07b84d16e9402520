"""Stretches: a row cut into its ups, its middle and its downs."""

from stintpurse.looks import same
from stintpurse.pairs import dips, heights, turned_row


def first_above(tall, start):
    """The first place behind start that is higher than start, None where there is none."""
    for at in range(start + 1, len(tall)):
        if tall[at] > tall[start]:
            return at
    return None


def up_end(tall, deep, start):
    """Where the up that begins at start ends; start itself where there is none."""
    above = first_above(tall, start)
    if above is None:
        return start
    # A longer beginning never has a greater least dip, so the shortest one that is above 0 has the greatest.
    floor = min(deep[start:above])
    best = above
    at = above
    while at < len(deep) and deep[at] >= floor:
        at += 1
        if tall[at] >= tall[best]:
            best = at
    return best


def ups_of(row):
    """All ups of a row, one behind another."""
    tall = heights(row)
    deep = dips(row)
    ups = []
    start = 0
    end = up_end(tall, deep, start)
    while end > start:
        ups.append((start, end))
        start = end
        end = up_end(tall, deep, start)
    return tuple(ups)


def middle_end(row, start):
    """The last place from start on that is as high as start."""
    tall = heights(row)
    end = start
    for at in range(start, len(tall)):
        if tall[at] == tall[start]:
            end = at
    return end


def downs_of(row, start):
    """The downs of what is left of a row from start on."""
    many = len(row)
    turned = ups_of(turned_row(row[start:]))
    return tuple([(many - last, many - first) for first, last in turned[::-1]])


def cut(row):
    """(ups, middle, downs) of a row, each stretch as (first, last)."""
    ups = ups_of(row)
    start = ups[-1][1] if ups else 0
    end = middle_end(row, start)
    return (ups, (start, end), downs_of(row, end))


def stretches_hold(row, thing):
    """Whether thing, anything, is the row's cut."""
    return same(cut(row), thing)
