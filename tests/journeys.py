"""Journeys for the tests: a small book gone act by act, the acts that are done kept by themselves, copy by copy."""

from worlds import COPIED, inner_books, plain_spots, stands_ahead


def children(book, way):
    """(way, part) of all that stands directly in a book, each copy too."""
    if book[0] in COPIED:
        return [(way + (copy,), book[2]) for copy in range(book[1])]
    return [(way + (number,), part) for number, part in enumerate(inner_books(book))]


def plain_text(book, standing):
    """The text of a standing, as the sentences tell it."""
    if book[0] == "act":
        return "1" if standing else "0"
    if book[0] == "beside":
        return "[%s]" % ",".join(plain_text(part, inner) for part, inner in zip(book[1], standing))
    if book[0] == "many":
        return "{%s}" % ",".join("%dx%s" % (count, plain_text(book[2], inner)) for count, inner in standing)
    at, inner = standing
    if inner is None:
        return "%d:" % at
    return "%d:%s" % (at, plain_text(book[2] if book[0] == "times" else book[1][at], inner))


class Journey:
    """All that can be done in a small book; a state is the set of the spots that are done."""

    def __init__(self, book):
        self.book = book
        self.pairs = dict(plain_spots(book))
        self.start = frozenset()
        self.end = frozenset(self.pairs)
        self.ahead = {
            spot: {other for other in self.pairs if other != spot and stands_ahead(book, other, spot)}
            for spot in self.pairs
        }

    def free(self, done, prefix=()):
        """The spots, below a prefix, that can come next."""
        return [
            spot for spot in self.pairs
            if spot not in done and self.ahead[spot] <= done and spot[:len(prefix)] == prefix
        ]

    def gain(self, done):
        return sum(self.pairs[spot][1] - self.pairs[spot][0] for spot in done)

    def states(self):
        """All states, by how many acts are done."""
        levels = [{self.start}]
        while levels[-1]:
            levels.append({done | {spot} for done in levels[-1] for spot in self.free(done)})
        return [done for level in levels for done in sorted(level, key=sorted)]

    def is_ended(self, done, way=()):
        return not any(spot[:len(way)] == way and spot not in done for spot in self.pairs)

    def standing(self, done, book=None, way=()):
        """The standing of the part at a way, copies by their numbers."""
        book = book or self.book
        if book[0] == "act":
            return 1 if way in done else 0
        inner = children(book, way)
        if book[0] in ("then", "times"):
            for number, (deeper, part) in enumerate(inner):
                if not self.is_ended(done, deeper):
                    return (number, self.standing(done, part, deeper))
            return (len(inner), None)
        told = [self.standing(done, part, deeper) for deeper, part in inner]
        if book[0] == "beside":
            return tuple(told)
        texts = {plain_text(book[2], one): one for one in told}
        return tuple((told.count(texts[text]), texts[text]) for text in sorted(texts))

    def way(self, done, spot):
        """The way on to a spot: of a many the number of the run in which the copy stands."""
        way = ()
        book = self.book
        for at, number in enumerate(spot):
            if book[0] == "many":
                runs = [inner for count, inner in self.standing(done, book, spot[:at])]
                way += (runs.index(self.standing(done, book[2], spot[:at + 1])),)
            else:
                way += (number,)
            book = book[2] if book[0] in COPIED else book[1][number]
        return way

    def ways(self, done):
        """{way: state behind it} of all ways on."""
        return {self.way(done, spot): done | {spot} for spot in self.free(done)}

    def needs(self, done, prefix=()):
        """{state: the least purse with which acts below the prefix lead there}."""
        found = {done: 0}
        level = {done: 0}
        while level:
            more = {}
            for here, need in level.items():
                height = self.gain(here) - self.gain(done)
                for spot in self.free(here, prefix):
                    asked = max(need, self.pairs[spot][0] - height)
                    both = here | {spot}
                    more[both] = min(asked, more.get(both, asked))
            found.update(more)
            level = more
        return found

    def rest_least(self, done):
        return self.needs(done)[self.end]

    def greatest(self, done, purse):
        """The greatest purse that any acts lead to."""
        heights = [self.gain(here) - self.gain(done) for here, need in self.needs(done).items() if need <= purse]
        return purse + max(heights)

    def parts(self, done):
        """{place: (the part, the way of a copy of it)} of all parts under way."""
        found = {}

        def on(book, way, place):
            found[place] = (book, way)
            inner = children(book, way)
            if book[0] == "beside":
                for number, (deeper, part) in enumerate(inner):
                    on(part, deeper, place + (number,))
            elif book[0] == "many":
                for number, run in enumerate(self.standing(done, book, way)):
                    deeper = next(far for far, part in inner if self.standing(done, part, far) == run[1])
                    on(book[2], deeper, place + (number,))
            elif book[0] in ("then", "times"):
                number, told = self.standing(done, book, way)
                if told is not None:
                    on(inner[number][1], inner[number][0], place + (0 if book[0] == "times" else number,))

        on(self.book, (), ())
        return found

    def stretch(self, done, prefix):
        """(N, M, the states that may be told) of the first up of what is left below a prefix, None of none."""
        here = self.gain(done)
        found = [(need, self.gain(state) - here, state) for state, need in self.needs(done, prefix).items()]
        above = [need for need, gain, state in found if gain > 0]
        if not above:
            return None
        first = min(above)
        most = max(gain for need, gain, state in found if need <= first)
        return (first, first + most, [state for need, gain, state in found if need == first and gain == most])
