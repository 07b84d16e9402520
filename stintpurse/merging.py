"""Forms put together: one behind another, beside one another, and in many copies."""

from stintpurse.forms import fall, form_of, form_row, least_top, rise, turned_form
from stintpurse.pairs import turned_row

NONE = ((), 0, ())


def then_form(forms):
    """The form of all the forms' rows one behind another."""
    told = [form for form in forms if form != NONE]
    if len(told) < 2:
        return told[0] if told else NONE
    row = ()
    for form in told:
        row += form_row(form)
    return form_of(row)


def gathered(pairs):
    """Ups' pairs of all forms as one up: by need, each joined to the one ahead where that comes up to it."""
    made = []
    for need, leave in sorted(pairs):
        if made and made[-1][1] >= need:
            first, reached = made[-1]
            made[-1] = (first, reached + leave - need)
        else:
            made.append((need, leave))
    return tuple(made)


def woven(ups, top, downs):
    """The form of all these ups' and downs' pairs beside one another."""
    up = gathered(ups)
    down = turned_row(gathered(turned_row(downs)))
    return (up, max(top, least_top(up, down)), down)


def beside_form(forms):
    """The form of the forms beside one another."""
    if len(forms) == 1:
        return forms[0]
    ups = [pair for form in forms for pair in form[0]]
    downs = [pair for form in forms for pair in form[2]]
    return woven(ups, max([0] + [form[1] for form in forms]), downs)


def lifted(form, more):
    """The form with a last up that reaches so much higher."""
    up, top, down = form
    need, leave = up[-1]
    return (up[:-1] + ((need, leave + more),), max(top, leave + more), down)


def times_form(k, form):
    """The form of k of the form's rows one behind another."""
    if k == 0:
        return NONE
    gain = rise(form) - fall(form)
    # Of one, and of one that comes back to where it began, any more add nothing.
    if k == 1 or gain == 0:
        return form
    if gain < 0:
        return turned_form(times_form(k, turned_form(form)))
    # The second one may begin an up of its own; from there on only the last up grows.
    return lifted(then_form((form, form)), (k - 2) * gain)


def many_form(k, form):
    """The form of k of the form beside one another."""
    if k < 2:
        return form if k == 1 else NONE
    up, top, down = form
    ups = [(need, need + k * (leave - need)) for need, leave in up]
    downs = [(leave + k * (need - leave), leave) for need, leave in down]
    return woven(ups, top, downs)
