"""The form of each book, and the paper with the forms of all its parts."""

from stintpurse.books import parts_of
from stintpurse.forms import least_of
from stintpurse.looks import same
from stintpurse.merging import beside_form, many_form, then_form, times_form


def act_form(need, leave):
    """The form of a pair alone."""
    if need < leave:
        return (((need, leave),), leave, ())
    return ((), need, ((need, leave),) if need > leave else ())


def form_with(book, forms):
    """The form of a book that isn't an act, and whose parts have these forms."""
    word = book[0]
    if word == "then":
        return then_form(forms)
    if word == "beside":
        return beside_form(forms)
    if word == "times":
        return times_form(book[1], forms[0])
    return many_form(book[1], forms[0])


def form(book):
    """The form of a book."""
    if book[0] == "act":
        return act_form(book[1], book[2])
    return form_with(book, tuple([form(part) for part in parts_of(book)]))


def least(book):
    """The least purse that bears some order of the book."""
    return least_of(form(book))


def forms_paper(book):
    """(form, papers): the book's form, with the papers of the books in it."""
    if book[0] == "act":
        return (act_form(book[1], book[2]), ())
    papers = tuple([forms_paper(part) for part in parts_of(book)])
    return (form_with(book, tuple([paper[0] for paper in papers])), papers)


def paper_holds(book, thing):
    """Whether thing, anything, is just the book's forms paper."""
    return same(forms_paper(book), thing)
