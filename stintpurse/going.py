"""Parts under way: what is left of each, and the next stretch of it."""

from stintpurse.climbs import climbed, left_paper
from stintpurse.errors import NoPart
from stintpurse.looks import is_whole
from stintpurse.rests import rest_of
from stintpurse.standings import check_standing, entered, stood_on


def next_number(book, standing, number):
    """The number by which a way goes into what a place tells by this one, anything; None where it can't be."""
    if book[0] != "times":
        return number
    # A place tells the copy that stands next as 0, whichever it is.
    return standing[0] if is_whole(number) and number == 0 else None


def part_way(book, standing, place):
    """(way, part, standing) of the part under way at a place, anything."""
    if not isinstance(place, tuple):
        raise NoPart(place)
    way = ()
    here = (book, standing)
    for number in place:
        at = next_number(here[0], here[1], number)
        here = entered(here[0], here[1], at)
        if here is None:
            raise NoPart(place)
        way = way + (at,)
    return (way,) + here


def part_rest(book, standing, place):
    """The rest of the part under way at a place."""
    check_standing(book, standing)
    way, part, here = part_way(book, standing, place)
    return rest_of(part, here)


def stretch(book, standing, place):
    """(N, M, standing) of the next stretch of the part under way at a place, None where it gains nothing any more."""
    check_standing(book, standing)
    way, part, here = part_way(book, standing, place)
    paper = left_paper(part, here)
    ups = paper[0][0]
    if len(ups) == 0:
        return None
    return ups[0] + (stood_on(book, standing, way, climbed(part, here, paper, 1)),)
