"""Which stretches a row falls into, and in which turn stretches of parts beside one another go."""

from stintpurse.stretches import cut


def stretches_of(row):
    """All stretches of a row as (first, last), one behind another, none of them nothing."""
    ups, middle, downs = cut(row)
    return [(first, last) for first, last in ups + (middle,) + downs if first < last]


def turn_of(pair):
    """What stretches beside one another are sorted by: ups by rising need, middles, downs by falling leave."""
    need, leave = pair
    if need < leave:
        return (0, need)
    return (1, 0) if need == leave else (2, -leave)
