"""Climbs: where a book stands behind the first ups of what is left of it, however many copies go up at once.

A part's paper here is (form, papers): the form of its rest, and the papers of what stands in it and may still go on,
with those behind it in a then or times at their beginning.
"""

from stintpurse.books import is_copied
from stintpurse.formed import act_form
from stintpurse.forms import fall, form_row, rise
from stintpurse.merging import NONE, beside_form, many_form, then_form, times_form
from stintpurse.standings import begin, gathered, with_within, within
from stintpurse.stretches import climb


def still_open(book, standing):
    """(part, standing) of all that stands in a book and has its papers there."""
    parts = [(part, inner) for number, part, inner in within(book, standing)]
    if book[0] not in ("then", "times") or len(parts) == 0:
        return parts
    behind = (book[2],) if is_copied(book) else book[1][standing[0] + 1:]
    whole_ones = [(part, begin(part)) for part in behind]
    # A copy that is to begin has the paper of the whole ones behind it: told twice, copies of copies would be too many.
    return parts if is_copied(book) and parts == whole_ones else parts + whole_ones


def left_paper(book, standing):
    """The paper of what is left of a book."""
    if book[0] == "act":
        return (act_form(book[1], book[2]) if standing == 0 else NONE, ())
    papers = tuple([left_paper(part, inner) for part, inner in still_open(book, standing)])
    return (left_form(book, standing, [paper[0] for paper in papers]), papers)


def left_form(book, standing, forms):
    """The form of what is left of a book, forms those of its papers."""
    if book[0] == "many":
        return beside_form(tuple([many_form(run[0], form) for run, form in zip(standing, forms)]))
    if book[0] == "beside":
        return beside_form(tuple(forms))
    return then_form(forms_in_turn(book, standing, forms))


def forms_in_turn(book, standing, forms):
    """The forms that stand one behind another in what is left of a then or times."""
    if is_copied(book) and len(forms) > 0:
        return (forms[0], times_form(book[1] - standing[0] - 1, forms[-1]))
    return tuple(forms)


def ups_up_to(form, most):
    """How many ups of a form a purse can do that comes to most by them and others beside them."""
    return len([need for need, leave in form[0] if need <= most])


def end_of_ups(forms, ups):
    """(number, many): the first ups of forms one behind another end with so many ups of the form with that number."""
    rows = [form_row(form) for form in forms]
    row = tuple([pair for part in rows for pair in part])
    # Where it is as high as the up comes for the first time, an up of one of the forms has just ended.
    at = climb(row)[0][ups - 1][2]
    number = 0
    while at > len(rows[number]):
        at -= len(rows[number])
        number += 1
    return (number, at)


def copy_of_ups(copies, form, ups):
    """(number, many) of the first ups of so many copies one behind another that have that form."""
    # Only the last up of copies that gain goes from one into another, through all of them.
    if rise(form) > fall(form) and ups == len(times_form(copies, form)[0]):
        return (copies - 1, len(form[0]))
    return (0, ups)


def climbed_in_turn(book, standing, papers, ups):
    """Where a then or times stands behind the first ups of what is left of it."""
    forms = [paper[0] for paper in papers]
    number, many = end_of_ups(forms_in_turn(book, standing, forms), ups)
    at = standing[0] + number
    if is_copied(book) and number > 0:
        copy, many = copy_of_ups(book[1] - at, forms[-1], many)
        at += copy
    part = book[2] if is_copied(book) else book[1][at]
    first = standing[1] if number == 0 else begin(part)
    paper = papers[min(number, len(papers) - 1)]
    return with_within(book, standing, at, climbed(part, first, paper, many))


def climbed(book, standing, paper, ups):
    """Where a book stands behind the first ups of what is left of it, as its paper tells them."""
    if ups == 0:
        return standing
    if book[0] == "act":
        return 1
    shape, papers = paper
    if book[0] in ("then", "times"):
        return climbed_in_turn(book, standing, papers, ups)
    most = shape[0][ups - 1][1]
    parts = still_open(book, standing)
    inner = [
        climbed(part, here, told, ups_up_to(told[0], most)) for (part, here), told in zip(parts, papers)
    ]
    if book[0] == "many":
        return gathered(book[2], [(run[0], here) for run, here in zip(standing, inner)])
    return tuple(inner)
