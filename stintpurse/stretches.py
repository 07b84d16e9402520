"""Stretches: a row cut into its ups, its middle and its downs."""

from stintpurse.looks import same
from stintpurse.pairs import turned_row


def climb(row):
    """(ups, flat, last): all ups of a row, and how it goes on from where it is highest.

    An up is (need, leave, peak, end): the pair that it is, how many pairs of the row stand ahead of the first place
    where it is as high as it comes, and ahead of its end. A pair that comes higher than all ahead of it goes to the up
    ahead, where no dip since then is deeper than those of that up; else it ends a new one. From the height low, with
    its deepest dip at floor, to the height best an up is the pair (low - floor, best - floor). Behind all ups flat is
    wanted to come as high again, for the last time behind so many pairs as last tells.
    """
    ups = []
    height = best = deepest = floor = flat = last = 0
    for at, (need, leave) in enumerate(row, start=1):
        dip = height - need
        if dip < deepest:
            deepest = dip
        height = dip + leave
        if height < best:
            continue
        last = at
        if height == best:
            flat = best - deepest
            if ups and deepest >= floor:
                ups[-1] = ups[-1][:3] + (at,)
            continue
        if ups and deepest >= floor:
            ups[-1] = (ups[-1][0], height - floor, at, at)
        else:
            floor = deepest
            ups.append((best - floor, height - floor, at, at))
        best = deepest = height
        flat = 0
    return (ups, flat, last)


def between(ends):
    """(first, last) of stretches one behind another, from the first place on, that end so."""
    return tuple([(first, last) for first, last in zip([0] + ends, ends)])


def cut(row):
    """(ups, middle, downs) of a row, each stretch as (first, last)."""
    ups, flat, end = climb(row)
    ends = [up[3] for up in ups]
    start = ends[-1] if ends else 0
    many = len(row)
    turned = between([up[3] for up in climb(turned_row(row[end:]))[0]])
    downs = tuple([(many - last, many - first) for first, last in turned[::-1]])
    return (between(ends), (start, end), downs)


def stretches_hold(row, thing):
    """Whether thing, anything, is the row's cut."""
    return same(cut(row), thing)
