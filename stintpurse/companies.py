"""Companies: books with one open place, and what a book needs beside, ahead of and behind one more act."""

from stintpurse.books import bookfault, field_fault, is_worded, parts_of, with_part
from stintpurse.errors import BadBook, BadCompany
from stintpurse.formed import act_form, form
from stintpurse.forms import least_of
from stintpurse.merging import beside_form, then_form

OPEN = ("open",)
ACT = ("act", 0, 0)


def open_places(thing):
    """All places of anything, gone into as far as it is like a book, at which the open place stands."""
    if thing == OPEN:
        return [()]
    if not is_worded(thing) or field_fault(thing) is not None:
        return []
    return [(number,) + place for number, part in enumerate(parts_of(thing)) for place in open_places(part)]


def is_company(thing):
    """Whether thing, anything, is a company."""
    places = open_places(thing)
    return len(places) == 1 and bookfault(with_part(thing, places[0], ACT)) is None


def put(company, book):
    """The company with the book in its open place."""
    if not is_company(company):
        raise BadCompany()
    made = with_part(company, open_places(company)[0], book)
    fault = bookfault(made)
    if fault is not None:
        raise BadBook(fault[0], fault[1])
    return made


def shape_beside(shape, pair):
    """The least purse of what has a shape, that is a form, beside an act that is that pair."""
    return least_of(beside_form((shape, act_form(pair[0], pair[1]))))


def least_beside(book, pair):
    """The least purse of the book beside an act that is that pair."""
    return shape_beside(form(book), pair)


def least_ahead(book, pair):
    """The least purse of an act that is that pair, then the book."""
    return least_of(then_form((act_form(pair[0], pair[1]), form(book))))


def least_after(book, pair):
    """The least purse of the book, then an act that is that pair."""
    return least_of(then_form((form(book), act_form(pair[0], pair[1]))))
