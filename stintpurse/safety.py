"""Safe standings: whether the purse bears the rest, and how far stretches lead."""

from stintpurse.climbs import climbed, left_paper
from stintpurse.errors import NoPurse
from stintpurse.formed import least
from stintpurse.looks import is_whole
from stintpurse.rests import rest_of
from stintpurse.standings import act_at, check_standing, stood_on, ways_on


def is_purse(thing):
    """Whether thing, anything, is what a purse can hold."""
    return is_whole(thing) and thing >= 0


def check_held(book, standing, purse):
    """Refuses what is no standing of the book, then what is no purse."""
    check_standing(book, standing)
    if not is_purse(purse):
        raise NoPurse(purse)


def lack_of(book, standing, purse):
    """How much more the purse would have to hold."""
    return max(0, least(rest_of(book, standing)) - purse)


def safe(book, standing, purse):
    """Whether the rest can be done with the purse."""
    check_held(book, standing, purse)
    return lack_of(book, standing, purse) == 0


def lacks(book, standing, purse):
    """How much more the purse would have to hold for the standing to be safe."""
    check_held(book, standing, purse)
    return lack_of(book, standing, purse)


def is_safe_way(book, standing, purse, way):
    """Whether the purse bears the act to which a way leads, and what is left behind it."""
    need, leave = act_at(book, way)
    return need <= purse and lack_of(book, stood_on(book, standing, way, 1), purse - need + leave) == 0


def safe_ways(book, standing, purse):
    """The ways on, rising, that the purse bears and that lead to safe standings."""
    check_held(book, standing, purse)
    return tuple([way for way in ways_on(book, standing) if is_safe_way(book, standing, purse, way)])


def ups_borne(ups, purse):
    """(many, purse): how many ups one behind another the purse bears, and what it holds behind them."""
    held = purse
    for many, (need, leave) in enumerate(ups):
        if held < need:
            return (many, held)
        held += leave - need
    return (len(ups), held)


def greatest(book, standing, purse):
    """The greatest purse that any row of acts comes to."""
    check_held(book, standing, purse)
    return ups_borne(left_paper(book, standing)[0][0], purse)[1]


def reached(book, standing, purse):
    """(standing, purse) behind stretches, until the purse bears none of any part."""
    check_held(book, standing, purse)
    paper = left_paper(book, standing)
    many, held = ups_borne(paper[0][0], purse)
    return (climbed(book, standing, paper, many), held)
