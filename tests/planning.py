"""Plans for the tests: by chance, spelled out plainly, and looked at as the sentences say."""

from worlds import COPIED, inner_books


def parted(chance, things):
    """The things, in their order, parted by chance into tuples, none of them empty."""
    pieces = []
    for thing in things:
        if pieces and chance.randint(0, 1):
            pieces[-1] += (thing,)
        else:
            pieces.append((thing,))
    return tuple(pieces)


def woven(chance, counts, in_turn):
    """(number, many) by chance, that together take all of the counts."""
    left = list(counts)
    takings = []
    while any(left):
        free = [number for number, many in enumerate(left) if many]
        number = free[0] if in_turn else chance.choice(free)
        many = chance.randint(1, left[number])
        takings.append((number, many))
        left[number] -= many
    return takings


def chance_ends(chance, last):
    """Rising ends by chance, however far the last one is."""
    if last == 0:
        return ()
    ends = {chance.randint(1, last) for _ in range(chance.randint(0, 4))}
    ends |= {end for end in (1, 2, 3, last - 2, last - 1) if 0 < end < last and chance.randint(0, 2) == 0}
    return tuple(sorted(ends | {last}))


def plan_pieces(book, plan):
    """How many pieces a plan has."""
    if book[0] == "act":
        return 1
    return 0 if book[0] in COPIED and book[1] == 0 else len(plan[1])


def chance_plan(chance, book):
    """A plan of a book by chance."""
    if book[0] == "act":
        return ()
    plans = tuple(chance_plan(chance, part) for part in inner_books(book))
    counts = [plan_pieces(part, plan) for part, plan in zip(inner_books(book), plans)]
    if book[0] == "times":
        return (plans[0], chance_ends(chance, book[1] * counts[0]))
    if book[0] == "many":
        return (plans[0], tuple(len(piece) for piece in parted(chance, range(counts[0]))))
    return (plans, parted(chance, woven(chance, counts, book[0] == "then")))


def plain_pieces(book, plan):
    """The pieces of a plan of a small book, each the list of its spots."""
    if book[0] == "act":
        return [[()]]
    inner = [plan[0]] if book[0] in COPIED else plan[0]
    parts = [plain_pieces(part, told) for part, told in zip(inner_books(book), inner)]
    if book[0] == "times":
        row = [[(copy,) + spot for spot in piece] for copy in range(book[1]) for piece in parts[0]]
        starts = (0,) + plan[1]
        return [sum(row[start:end], []) for start, end in zip(starts, plan[1])]
    pieces = []
    if book[0] == "many":
        for count in plan[1] if book[1] else ():
            taken, parts[0] = parts[0][:count], parts[0][count:]
            pieces.append([(copy,) + spot for piece in taken for copy in range(book[1]) for spot in piece])
        return pieces
    for piece in plan[1]:
        spots = []
        for number, many in piece:
            taken, parts[number] = parts[number][:many], parts[number][many:]
            spots += [(number,) + spot for one in taken for spot in one]
        pieces.append(spots)
    return pieces


def whole_number(thing, least):
    return thing.__class__ is int and thing >= least


def plain_telling(book, counts, told):
    """Whether pieces, ends or counts are as the sentences say."""
    if book[0] == "times":
        last = book[1] * counts[0]
        if not all(whole_number(end, 1) for end in told) or sorted(set(told)) != list(told):
            return False
        return told == () if last == 0 else told[-1:] == (last,)
    if book[0] == "many":
        return all(whole_number(count, 1) for count in told) and sum(told) == counts[0]
    taken = []
    for piece in told:
        if piece.__class__ is not tuple or piece == ():
            return False
        for taking in piece:
            if taking.__class__ is not tuple or len(taking) != 2:
                return False
            if not whole_number(taking[0], 0) or taking[0] >= len(counts) or not whole_number(taking[1], 1):
                return False
            taken.append(taking)
    if any(sum(many for number, many in taken if number == book) != count for book, count in enumerate(counts)):
        return False
    numbers = [number for number, _ in taken]
    return book[0] == "beside" or all(
        elder not in numbers[at:] for at, number in enumerate(numbers) for elder in range(number)
    )


def plain_planfaults(book, thing, place=()):
    """All faults of a plan, as far as they can be seen, in the told order."""
    if book[0] == "act":
        return [] if thing.__class__ is tuple and thing == () else [(place, "plan")]
    shaped = thing.__class__ is tuple and len(thing) == 2 and thing[1].__class__ is tuple
    if not shaped or (book[0] not in COPIED and thing[0].__class__ is not tuple):
        return [(place, "plan")]
    plans = thing[:1] if book[0] in COPIED else thing[0]
    parts = inner_books(book)
    if len(plans) != len(parts):
        return [(place, "plans")]
    faults = []
    for number, part in enumerate(parts):
        faults += plain_planfaults(part, plans[number], place + (number,))
    if not faults:
        counts = [plan_pieces(part, plan) for part, plan in zip(parts, plans)]
        if not plain_telling(book, counts, thing[1]):
            why = {"times": "ends", "many": "counts"}.get(book[0], "pieces")
            faults.append((place, why))
    return faults
