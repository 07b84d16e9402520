"""Leadings: from whatever order by moves to one of the least purse, none of which ever asks for more."""

from stintpurse.bounds import ROW, SMALL
from stintpurse.errors import NoMove
from stintpurse.formed import least
from stintpurse.orders import moved_with, next_in, row_with, shifted, table_for
from stintpurse.pairs import dips, turned_row, whole
from stintpurse.weaving import stretches_of, turn_of


def pivot_of(row):
    """The number of the pair of a stretch at which all of it can be gathered: of an up or middle the first deepest."""
    need, leave = whole(row)
    if need <= leave:
        deep = dips(row)
        return deep.index(min(deep))
    return len(row) - 1 - pivot_of(turned_row(row))


def waits(one, other):
    """Whether, of two stretches that have to change places, the one goes behind the other; else that goes ahead.

    What gains must not wait. What doesn't gain can, where the other one leaves enough;
    else the purse that bears the one bears the other one already.
    """
    return one[0] >= one[1] and other[1] >= one[1]


class Lead:
    """An order on its way to a best one, with the moves that it took until the purse was the least."""

    def __init__(self, table, order, goal):
        self.table = table
        self.order = order
        self.goal = goal
        self.moves = []

    def whole_of(self, spots):
        """The pair that these spots are in one piece."""
        return whole(row_with(self.table, spots))

    def take(self, spots, at):
        """Moves the spots, as they follow one another, to the place at."""
        places = tuple([place for place, spot in enumerate(self.order) if spot in spots])
        if places == tuple(range(at, at + len(places))):
            return
        if self.whole_of(self.order)[0] > self.goal:
            self.moves.append((places, at))
        self.order = shifted(self.order, (places, at))

    def blocks(self, way):
        """The stretches, as tuples of spots, of the part at a way as it stands in the order now."""
        spots = tuple([spot for spot in self.order if spot[:len(way)] == way])
        return [spots[first:last] for first, last in stretches_of(row_with(self.table, spots))]

    def gather(self, block):
        """Brings a stretch together where its pivot stands."""
        pivot = pivot_of(row_with(self.table, block))
        self.take(block, self.order.index(block[pivot]) - pivot)

    def exchange(self, one, other):
        """Brings two blocks, each in one piece, into the other order."""
        if waits(self.whole_of(one), self.whole_of(other)):
            self.take(one, self.order.index(other[-1]) + 1 - len(one))
        else:
            self.take(other, self.order.index(one[0]))

    def weave(self, blocks):
        """Brings the blocks of parts beside one another, each in one piece, into their best turn."""
        line = sorted(blocks, key=lambda block: self.order.index(block[0]))
        turns = [turn_of(self.whole_of(block)) for block in line]
        for last in range(1, len(line)):
            at = last
            while at > 0 and turns[at] < turns[at - 1]:
                self.exchange(line[at - 1], line[at])
                line[at - 1], line[at] = line[at], line[at - 1]
                turns[at - 1], turns[at] = turns[at], turns[at - 1]
                at -= 1

    def settle(self, book, way):
        """Brings the acts of the part at a way into the stretches of its form, each in one piece."""
        inner = [(way + (number,), part) for number, part in next_in(book)]
        for deeper, part in inner:
            self.settle(part, deeper)
        if book[0] in ("beside", "many"):
            self.weave([block for deeper, part in inner for block in self.blocks(deeper)])
        own = self.blocks(way)
        for block in own:
            self.gather(block)


def leading(book, order):
    """A leading of the order: moves behind which it has the least purse of the book."""
    table = table_for(book, order, SMALL)
    lead = Lead(table, order, least(book))
    lead.settle(book, ())
    return tuple(lead.moves)


def leading_holds(book, order, thing):
    """Whether thing, anything, is a leading of the order."""
    table = table_for(book, order, ROW)
    if not isinstance(thing, tuple):
        return False
    here = order
    need = whole(row_with(table, here))[0]
    for move in thing:
        try:
            here = moved_with(table, here, move)
        except NoMove:
            return False
        before = need
        need = whole(row_with(table, here))[0]
        if need > before:
            return False
    return need == least(book)
