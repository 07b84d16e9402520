"""Forms (up, top, down): what anybody beside or behind a row ever sees of it."""

from stintpurse.looks import is_whole
from stintpurse.pairs import are_pairs, turned_row, whole
from stintpurse.stretches import cut


def is_rising(pairs):
    """Whether all numbers of the pairs rise, as they stand."""
    numbers = [number for pair in pairs for number in pair]
    return all([less < more for less, more in zip(numbers, numbers[1:])])


def least_top(up, down):
    """The least top that goes with up and down."""
    return max([0] + [pair[1] for pair in up[-1:]] + [pair[0] for pair in down[:1]])


def is_form(thing):
    """Whether thing, anything, is a form."""
    if not isinstance(thing, tuple) or len(thing) != 3:
        return False
    up, top, down = thing
    if not (are_pairs(up) and is_whole(top) and are_pairs(down)):
        return False
    return is_rising(up) and is_rising(turned_row(down)) and top >= least_top(up, down)


def wholes(row, stretches):
    """The stretches of a row, each as a pair."""
    return tuple([whole(row[first:last]) for first, last in stretches])


def form_of(row):
    """The form of a row."""
    ups, (first, last), downs = cut(row)
    up = wholes(row, ups)
    down = wholes(row, downs)
    return (up, max(whole(row[first:last])[0], least_top(up, down)), down)


def form_row(form):
    """The form's row."""
    up, top, down = form
    return up + ((top, top),) + down


def rise(form):
    """What up's pairs gain together."""
    return sum([leave - need for need, leave in form[0]])


def fall(form):
    """What down's pairs lose together."""
    return sum([need - leave for need, leave in form[2]])


def least_of(form):
    """The least purse that bears the form's row."""
    return form[1] - rise(form)


def turned_form(form):
    """The form whose row is that one's turned about."""
    up, top, down = form
    return (turned_row(down), top, turned_row(up))
