"""Pairs (need, leave), and rows of them."""

from stintpurse.bounds import ROW
from stintpurse.errors import Short
from stintpurse.looks import is_whole


def is_pair(thing):
    """Whether thing, anything, is a pair."""
    return isinstance(thing, tuple) and len(thing) == 2 and all([is_whole(part) and part >= 0 for part in thing])


def are_pairs(thing):
    """Whether thing, anything, is a tuple of pairs, however many: rows of forms may be longer than ROW."""
    return isinstance(thing, tuple) and all([is_pair(part) for part in thing])


def is_row(thing):
    """Whether thing, anything, is a row."""
    return are_pairs(thing) and len(thing) <= ROW


def behind(row, purse):
    """What the purse holds behind the row; Short at the first pair that it can't do."""
    held = purse
    for at, (need, leave) in enumerate(row):
        if held < need:
            raise Short(at, need - held)
        held += leave - need
    return held


def joined(one, other):
    """The pair of two pairs, one behind the other."""
    need, left = one
    wanted, leave = other
    return (need + max(0, wanted - left), leave + max(0, left - wanted))


def whole(row):
    """The pair that the row is when it's done in one piece."""
    need = 0
    held = 0
    for wanted, leave in row:
        if wanted > held:
            need += wanted - held
            held = leave
        else:
            held += leave - wanted
    return (need, held)


def power(pair, k):
    """The pair of k like pairs one behind another."""
    if k == 0:
        return (0, 0)
    need, leave = pair
    gained = k * (leave - need)
    # Where it gains the first one asks for most, where it loses the last one leaves least.
    if gained >= 0:
        return (need, need + gained)
    return (leave - gained, leave)


def turned_row(row):
    """The row backwards, each pair with need and leave exchanged."""
    return tuple([(leave, need) for need, leave in row[::-1]])


def heights(row):
    """What the row has gained behind its first k pairs, for each k from 0 on."""
    height = 0
    told = [height]
    for need, leave in row:
        height += leave - need
        told.append(height)
    return tuple(told)


def dips(row):
    """For each pair the height ahead of it less its need."""
    return tuple([height - pair[0] for height, pair in zip(heights(row), row)])
