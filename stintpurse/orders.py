"""Orders of a book's acts, one by one, and moves from one order to another."""

from stintpurse.books import acts_in, has_acts, is_copied
from stintpurse.bounds import ROW
from stintpurse.errors import NoMove, NoOrder, TooMany
from stintpurse.looks import is_whole
from stintpurse.pairs import whole


def next_in(book):
    """(number, part) of all that stands directly in a book, each copy too, but where no act would be."""
    if book[0] == "act":
        return []
    if not is_copied(book):
        return list(enumerate(book[1]))
    copies = book[1] if has_acts(book[2]) else 0
    return [(number, book[2]) for number in range(copies)]


def spots_in(book, way, gates, table):
    """Puts all spots below the way into the table, each with (its pair, its gates).

    A gate is (way, number) of a then or times round the act: its numbers have to come in their order.
    """
    if book[0] == "act":
        table[way] = (book[1:], gates)
    gated = book[0] in ("then", "times")
    for number, part in next_in(book):
        more = gates + ((way, number),) if gated else gates
        spots_in(part, way + (number,), more, table)


def spot_table(book):
    """The pair and the gates of each spot of a book."""
    table = {}
    spots_in(book, (), (), table)
    return table


def is_spot(table, thing):
    """Whether thing, anything, is a spot of the table."""
    return isinstance(thing, tuple) and all([is_whole(part) for part in thing]) and thing in table


def is_in_turn(table, spots):
    """Whether the spots go through each gate in the order of its numbers."""
    passed = {}
    for spot in spots:
        for way, number in table[spot][1]:
            if passed.get(way, 0) > number:
                return False
            passed[way] = number
    return True


def is_ordered(table, thing):
    """Whether thing, anything, is an order of the book with this table."""
    if not (isinstance(thing, tuple) and len(thing) == len(table)):
        return False
    if not all([is_spot(table, spot) for spot in thing]):
        return False
    return len({spot: True for spot in thing}) == len(thing) and is_in_turn(table, thing)


def is_order(book, thing):
    """Whether thing, anything, is an order of the book."""
    return acts_in(book) <= ROW and is_ordered(spot_table(book), thing)


def table_for(book, order, most):
    """The book's table, where it has no more acts than most and order, anything, is one of it."""
    if acts_in(book) > most:
        raise TooMany(most)
    table = spot_table(book)
    if not is_ordered(table, order):
        raise NoOrder()
    return table


def row_with(table, order):
    """The pairs of an order."""
    return tuple([table[spot][0] for spot in order])


def row_of(book, order):
    """The pairs of an order of the book."""
    return row_with(table_for(book, order, ROW), order)


def order_least(book, order):
    """The least purse that bears an order of the book."""
    return whole(row_of(book, order))[0]


def is_move(order, thing):
    """Whether thing, anything, tells places in the order and where to put them."""
    if not (isinstance(thing, tuple) and len(thing) == 2):
        return False
    places, at = thing
    if not (isinstance(places, tuple) and len(places) > 0 and all([is_whole(place) for place in places])):
        return False
    if not all([one < other for one, other in zip(places, places[1:])]):
        return False
    if places[0] < 0 or places[-1] >= len(order):
        return False
    return is_whole(at) and 0 <= at <= len(order) - len(places)


def shifted(order, move):
    """What comes of an order by a move, whether it is an order or not."""
    places, at = move
    taken = tuple([order[place] for place in places])
    picked = {place: True for place in places}
    left = tuple([spot for place, spot in enumerate(order) if place not in picked])
    return left[:at] + taken + left[at:]


def moved_with(table, order, thing):
    """The order behind a move; NoMove where thing, anything, is none."""
    if not is_move(order, thing):
        raise NoMove()
    behind = shifted(order, thing)
    if not is_in_turn(table, behind):
        raise NoMove()
    return behind


def moved(book, order, move):
    """The order behind a move."""
    return moved_with(table_for(book, order, ROW), order, move)
