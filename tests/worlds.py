"""Small worlds for the tests: books by chance, and all that their orders can do, gone through plainly."""

import random

from stintpurse.formed import form
from stintpurse.forms import form_row

ACT = ("act", 2, 5)
NONE = ("then", ())
OPEN = ("open",)
COPIED = ("times", "many")


def chance_act(chance, greatest=9):
    return ("act", chance.randint(0, greatest), chance.randint(0, greatest))


def chance_book(chance, deep=3, widest=3, copies=(0, 1, 2, 3), greatest=9):
    """A book by chance, some way in."""
    kind = chance.randint(0, 5) if deep else 0
    if kind == 0:
        return chance_act(chance, greatest)
    if kind > 3:
        inner = chance_book(chance, deep - 1, widest, copies, greatest)
        return (COPIED[kind - 4], chance.choice(copies), inner)
    parts = [chance_book(chance, deep - 1, widest, copies, greatest) for _ in range(chance.randint(0, widest))]
    return (chance.choice(("then", "beside")), tuple(parts))


def books_in(book):
    """How many books are written in a book."""
    return 1 + sum(books_in(part) for part in inner_books(book))


def inner_books(book):
    if book[0] == "act":
        return ()
    return book[2:] if book[0] in COPIED else book[1]


def act_count(book):
    """How many acts are done in a book."""
    if book[0] == "act":
        return 1
    acts = sum(act_count(part) for part in inner_books(book))
    return book[1] * acts if book[0] in COPIED else acts


def chance_books(count, seed, fewest=0, most=10 ** 40, **how):
    """So many books by chance, the same with each run, with acts from the fewest to the most."""
    chance = random.Random(seed)
    books = []
    while len(books) < count:
        book = chance_book(chance, **how)
        if fewest <= act_count(book) <= most and books_in(book) <= 60:
            books.append(book)
    return books


def nested(many, inner, word="then"):
    """inner with so many books round it."""
    for _ in range(many):
        inner = (word, (inner,))
    return inner


def wide_books():
    """Books of as many books as there may be, some as deep as they may be."""
    chance = random.Random(77)
    acts = [chance_act(chance, 10 ** 12) for _ in range(59)]
    ups = [("act", 4 * k, 4 * k + 3) for k in range(29)]
    downs = [("act", 4 * k + 2, 4 * k) for k in range(29, -1, -1)]
    deep = ACT
    for k in range(11):
        deep = (("then", "beside")[k % 2], tuple(acts[4 * k:4 * k + 2]) + (deep,) + tuple(acts[4 * k + 2:4 * k + 4]))
    return [
        ("then", tuple(acts)), ("beside", tuple(acts)), ("then", tuple(ups + downs)), ("beside", tuple(downs + ups)),
        ("many", 10 ** 15, ("then", tuple(ups + downs[1:]))), ("times", 10 ** 15, ("beside", tuple(ups + downs[1:]))),
        ("then", (("many", 7, ("then", tuple(ups[:27]))), ("times", 9, ("then", tuple(downs[:28]))))), deep,
    ]


def far_books():
    """Books with copies, and copies of copies, that nobody could go through."""
    seven, eight, far = 10 ** 7, 10 ** 8, 10 ** 15
    gains = ("then", (("act", 3, 0), ("act", 1, 6)))
    loses = ("then", (("act", 1, 6), ("act", 8, 0)))
    evens = ("beside", (("act", 1, 6), ("act", 7, 2)))
    books = []
    for word in COPIED:
        for other in COPIED:
            for inner in (gains, loses, evens, ACT, ("act", 5, 2), ("act", 4, 4), NONE):
                books.append((word, seven, (other, eight, inner)))
        for inner in (gains, loses, evens):
            books.append((word, far, inner))
            books.append(("beside", ((word, far, inner), ("act", 10 ** 12, 0), ACT)))
            books.append(("then", (ACT, (word, far - 1, inner), ("act", 9, 1))))
            books.append((word, 3, ("then", (("many", far // 3, inner), ("times", far // 3, ("act", 5, 2)), gains))))
            books.append((word, 0, ("times", far, inner)))
    return books


def chance_company(chance, deep=3):
    """A company by chance."""
    kind = chance.randint(0, 5) if deep else 0
    if kind == 0:
        return OPEN
    inner = chance_company(chance, deep - 1)
    if kind > 3:
        return (COPIED[kind - 4], chance.choice((1, 1, 2)), inner)
    parts = [chance_book(chance, 1, 2, (0, 1, 2), 6) for _ in range(chance.randint(0, 2))]
    parts.insert(chance.randint(0, len(parts)), inner)
    return (("then", "beside")[kind % 2], tuple(parts))


def row_book(book):
    """A book that is the row of another one's form, its pairs one behind another."""
    return ("then", tuple(("act", need, leave) for need, leave in form_row(form(book))))


def plain_spots(book, way=()):
    """(spot, pair) of all acts, copies each."""
    if book[0] == "act":
        return [(way, book[1:])]
    if book[0] in COPIED:
        return [found for copy in range(book[1]) for found in plain_spots(book[2], way + (copy,))]
    return [found for number, part in enumerate(book[1]) for found in plain_spots(part, way + (number,))]


def part_there(book, way):
    for number in way:
        book = book[2] if book[0] in COPIED else book[1][number]
    return book


def stands_ahead(book, one, other):
    """Whether the one spot has to stand ahead of the other one."""
    at = next(at for at in range(len(one)) if one[at] != other[at])
    return part_there(book, one[:at])[0] in ("then", "times") and one[at] < other[at]


def plain_is_order(book, spots):
    """Whether each spot is there once, and each two in their turn."""
    if sorted(spots) != sorted(spot for spot, _ in plain_spots(book)):
        return False
    return not any(
        stands_ahead(book, later, spot) for at, spot in enumerate(spots) for later in spots[at + 1:]
    )


def chance_order(chance, book):
    """An order of a book by chance."""
    left = [spot for spot, _ in plain_spots(book)]
    order = []
    while left:
        free = [spot for spot in left if not any(other != spot and stands_ahead(book, other, spot) for other in left)]
        order.append(chance.choice(free))
        left.remove(order[-1])
    return tuple(order)


def all_orders(book):
    """All orders of a small book."""
    spots = [spot for spot, _ in plain_spots(book)]

    def on(done, left):
        if not left:
            yield done
        for spot in left:
            if not any(other != spot and stands_ahead(book, other, spot) for other in left):
                yield from on(done + (spot,), [other for other in left if other != spot])

    return list(on((), spots))


def plain_least(book):
    """The least purse of all orders, by going through all sets of acts that are done."""
    acts = plain_spots(book)
    bits = range(len(acts))
    ahead = [
        sum(1 << one for one in bits if one != other and stands_ahead(book, acts[one][0], acts[other][0]))
        for other in bits
    ]
    # of each set that can be done first: the least purse that bears some order of it, and what it gains
    sets = {0: (0, 0)}
    for _ in bits:
        more = {}
        for done, (purse, gain) in sets.items():
            for act in bits:
                if not done >> act & 1 and ahead[act] & done == ahead[act]:
                    need, leave = acts[act][1]
                    asked = max(purse, need - gain)
                    both = done | 1 << act
                    if both not in more or more[both][0] > asked:
                        more[both] = (asked, gain + leave - need)
        sets = more
    return sets[(1 << len(acts)) - 1][0]
