"""Forms (up, top, down): what anybody beside or behind a row ever sees of it."""

from stintpurse.looks import is_whole
from stintpurse.pairs import are_pairs, turned_row
from stintpurse.stretches import climb


def is_rising(pairs):
    """Whether all numbers of the pairs rise, as they stand."""
    numbers = [number for pair in pairs for number in pair]
    return all([less < more for less, more in zip(numbers, numbers[1:])])


def least_top(up, down):
    """The least top that goes with up and down."""
    last = up[-1][1] if up else 0
    return max(last, down[0][0]) if down else last


def is_form(thing):
    """Whether thing, anything, is a form."""
    if not isinstance(thing, tuple) or len(thing) != 3:
        return False
    up, top, down = thing
    if not (are_pairs(up) and is_whole(top) and are_pairs(down)):
        return False
    return is_rising(up) and is_rising(turned_row(down)) and top >= least_top(up, down)


def form_of(row):
    """The form of a row."""
    ups, flat, last = climb(row)
    # Turned about, it comes up to where it is highest for the last time, by its downs.
    downs = climb(turned_row(row))[0]
    up = tuple([told[:2] for told in ups])
    down = turned_row(tuple([told[:2] for told in downs]))
    return (up, max(flat, least_top(up, down)), down)


def form_row(form):
    """The form's row."""
    up, top, down = form
    return up + ((top, top),) + down


def rise(form):
    """What up's pairs gain together."""
    return sum([leave - need for need, leave in form[0]])


def fall(form):
    """What down's pairs lose together."""
    return sum([need - leave for need, leave in form[2]])


def least_of(form):
    """The least purse that bears the form's row."""
    return form[1] - rise(form)


def turned_form(form):
    """The form whose row is that one's turned about."""
    up, top, down = form
    return (turned_row(down), top, turned_row(up))
