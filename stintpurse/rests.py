"""Rests: the book of what is left at a standing, and what was gained up to it."""

from stintpurse.books import gain_of, is_copied
from stintpurse.standings import begin, check_standing, no_act_left, within

ENDED = ("then", ())


def rest_in_turn(book, standing):
    """What is left of a then or times that is under way."""
    number, part, inner = within(book, standing)[0]
    first = rest_of(part, inner)
    if is_copied(book):
        return ("then", (first, ("times", book[1] - number - 1, part)))
    return ("then", (first,) + book[1][number + 1:])


def rest_of(book, standing):
    """The book of what is left, of what is known to be a standing."""
    if no_act_left(book, standing):
        return ENDED
    if standing == begin(book):
        return book
    if book[0] in ("then", "times"):
        return rest_in_turn(book, standing)
    rests = [rest_of(part, inner) for number, part, inner in within(book, standing)]
    if book[0] == "many":
        return ("beside", tuple([("many", run[0], left) for run, left in zip(standing, rests)]))
    return ("beside", tuple(rests))


def rest(book, standing):
    """The book of what is left."""
    check_standing(book, standing)
    return rest_of(book, standing)


def got_of(book, standing):
    """What was gained, of what is known to be a standing."""
    if book[0] == "act":
        return gain_of(book) if standing == 1 else 0
    gains = [got_of(part, inner) for number, part, inner in within(book, standing)]
    if book[0] == "many":
        return sum([run[0] * gain for run, gain in zip(standing, gains)])
    if book[0] == "beside":
        return sum(gains)
    if is_copied(book):
        return standing[0] * gain_of(book[2]) + sum(gains)
    return sum([gain_of(part) for part in book[1][:standing[0]]] + gains)


def got(book, standing):
    """What was gained up to a standing."""
    check_standing(book, standing)
    return got_of(book, standing)
