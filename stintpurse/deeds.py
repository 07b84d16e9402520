"""The deeds on a bench: each takes (book, standing, purse) and what was handed in, and tells these behind it."""

from stintpurse.books import bookfault, is_place, with_part
from stintpurse.errors import BadBook, Begun, NoPlace, NoPurse, NoStretch, NoWay, Short
from stintpurse.going import stretch
from stintpurse.looks import is_whole
from stintpurse.putting import is_begun, standing_with
from stintpurse.standings import act_at, begin, is_way, no_act_left, standing_from, stood_on


def check_book(thing):
    """Refuses what is no book."""
    fault = bookfault(thing)
    if fault is not None:
        raise BadBook(fault[0], fault[1])


def held_behind(purse, need, leave):
    """What the purse holds behind a pair that it has to bear."""
    if purse < need:
        raise Short(0, need - purse)
    return purse - need + leave


def go_deed(state, things):
    """The act to which a way leads is done."""
    book, standing, purse = state
    way = things[0]
    if not is_way(book, standing, way):
        raise NoWay(way)
    need, leave = act_at(book, way)
    return (book, stood_on(book, standing, way, 1), held_behind(purse, need, leave))


def stretch_deed(state, things):
    """The next stretch of the part under way at a place is done."""
    book, standing, purse = state
    told = stretch(book, standing, things[0])
    if told is None:
        raise NoStretch()
    need, leave, after = told
    return (book, after, held_behind(purse, need, leave))


def put_deed(state, things):
    """Another part comes in the place of one that isn't begun."""
    book, standing, purse = state
    place, part = things
    if not is_place(book, place):
        raise NoPlace(place)
    if is_begun(book, standing, place):
        raise Begun(place)
    check_book(part)
    made = with_part(book, place, part)
    check_book(made)
    return (made, standing_with(book, made, standing, place), purse)


def join_deed(state, things):
    """A book comes beside all that there is."""
    book, standing, purse = state
    check_book(things[0])
    made = ("beside", (book, things[0]))
    check_book(made)
    return (made, (standing, begin(things[0])), purse)


def follow_deed(state, things):
    """A book comes behind all that there is."""
    book, standing, purse = state
    check_book(things[0])
    made = ("then", (book, things[0]))
    check_book(made)
    return (made, standing_from(made, 1) if no_act_left(book, standing) else (0, standing), purse)


def gift_deed(state, things):
    """The purse holds so much more, or less."""
    book, standing, purse = state
    more = things[0]
    if not is_whole(more) or purse + more < 0:
        raise NoPurse(more)
    return (book, standing, purse + more)


DEEDS_BY_WORD = {
    "go": go_deed,
    "stretch": stretch_deed,
    "put": put_deed,
    "join": join_deed,
    "follow": follow_deed,
    "gift": gift_deed,
}


def state_behind(word, state, things):
    """(book, standing, purse) behind the deed of that word."""
    deed = DEEDS_BY_WORD[word]
    return deed(state, things)
