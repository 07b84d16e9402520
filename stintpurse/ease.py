"""Ease: how much greater an act's need and leave may be until the book asks for a greater purse."""

from stintpurse.books import is_copied, part_at, parts_of, places_of
from stintpurse.errors import NoPlace
from stintpurse.formed import act_form, form, form_with
from stintpurse.forms import least_of


class Around:
    """What stands round an act: the books on the way to it, the outermost first, with the forms of all their parts."""

    def __init__(self, book, place):
        self.levels = []
        part = book
        for number in place:
            parts = parts_of(part)
            self.levels.append((part, number, tuple([form(inner) for inner in parts])))
            part = parts[number]
        self.need = part[1]
        self.leave = part[2]
        self.purse = self.least_with(0)

    def is_done(self):
        """Whether any copy of the act is done."""
        return all([not is_copied(part) or part[1] > 0 for part, number, forms in self.levels])

    def least_with(self, more):
        """The least purse of the whole book with need and leave of the act so much greater."""
        made = act_form(self.need + more, self.leave + more)
        for part, number, forms in self.levels[::-1]:
            made = form_with(part, forms[:number] + (made,) + forms[number + 1:])
        return least_of(made)

    def bears(self, more):
        """Whether the purse stays what it was with need and leave of the act so much greater."""
        return self.least_with(more) == self.purse


def greatest_borne(around):
    """The greatest number by which the act may be greater: the purse never gets less with more."""
    beyond = 1
    while around.bears(beyond):
        beyond *= 2
    borne = beyond // 2
    while beyond - borne > 1:
        middle = (borne + beyond) // 2
        if around.bears(middle):
            borne = middle
        else:
            beyond = middle
    return borne


def ease(book, place):
    """How much greater the act there may be, in all its copies, None where none is done."""
    if part_at(book, place)[0] != "act":
        raise NoPlace(place)
    around = Around(book, place)
    return greatest_borne(around) if around.is_done() else None


def tight(book):
    """The places, in preorder, of all acts whose ease is 0."""
    acts = [place for place in places_of(book) if part_at(book, place)[0] == "act"]
    # An act that is never done may be as great as one likes.
    return tuple([place for place in acts if not Around(book, place).bears(1)])
