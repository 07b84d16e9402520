"""Plans: orders of books told by pieces, however many copies there are."""

from stintpurse.books import acts_in, has_acts, is_copied, parts_of
from stintpurse.bounds import ROW
from stintpurse.errors import TooMany
from stintpurse.looks import is_whole
from stintpurse.pairs import joined, power, whole


def is_plan_shaped(book, thing):
    """Whether thing, anything, looks on its outside like a plan of the book."""
    if book[0] == "act":
        return thing == ()
    if not (isinstance(thing, tuple) and len(thing) == 2 and isinstance(thing[1], tuple)):
        return False
    return is_copied(book) or isinstance(thing[0], tuple)


def plans_in(book, plan):
    """The plans of the parts, in their order, that stand in a plan."""
    if book[0] == "act":
        return ()
    return (plan[0],) if is_copied(book) else plan[0]


def piece_count(book, plan):
    """How many pieces a plan tells."""
    if book[0] == "act":
        return 1
    if book[0] == "many" and book[1] == 0:
        return 0
    return len(plan[1])


def is_taking(thing, books):
    """Whether thing, anything, is (number, many) of so many books."""
    if not (isinstance(thing, tuple) and len(thing) == 2):
        return False
    number, many = thing
    return is_whole(number) and is_whole(many) and 0 <= number < books and many >= 1


def pieces_hold(word, many, pieces):
    """Whether pieces take all of the books' pieces, many of each; of a then in the books' order."""
    left = list(many)
    last = 0
    for piece in pieces:
        if not isinstance(piece, tuple) or len(piece) == 0:
            return False
        for taking in piece:
            if not is_taking(taking, len(left)):
                return False
            number, count = taking
            left[number] -= count
            if word == "then" and number < last:
                return False
            last = number
    return not any(left)


def ends_hold(ends, last):
    """Whether ends rise from 1 on up to the last one, none where that is 0."""
    here = 0
    for end in ends:
        if not (is_whole(end) and end > here):
            return False
        here = end
    return here == last


def counts_hold(counts, pieces):
    """Whether counts, each from 1 on, come to so many pieces."""
    return all([is_whole(count) and count >= 1 for count in counts]) and sum(counts) == pieces


def telling_fault(book, plan, many):
    """What is wrong with how a plan puts the pieces of its parts, many of each, together; None where nothing is."""
    if book[0] == "act":
        return None
    if book[0] == "times":
        return None if ends_hold(plan[1], book[1] * many[0]) else "ends"
    if book[0] == "many":
        return None if counts_hold(plan[1], many[0]) else "counts"
    return None if pieces_hold(book[0], many, plan[1]) else "pieces"


def fault_at(book, thing, place):
    """The first fault of thing as a plan of the book at this place, None where there is none."""
    if not is_plan_shaped(book, thing):
        return (place, "plan")
    parts = parts_of(book)
    plans = plans_in(book, thing)
    if len(plans) != len(parts):
        return (place, "plans")
    for number, part in enumerate(parts):
        fault = fault_at(part, plans[number], place + (number,))
        if fault is not None:
            return fault
    why = telling_fault(book, thing, [piece_count(part, inner) for part, inner in zip(parts, plans)])
    return None if why is None else (place, why)


def planfault(book, thing):
    """None where thing, anything, is a plan of the book, else (place, why) of the first fault."""
    return fault_at(book, thing, ())


def gathered_wholes(pieces, parts):
    """The whole of each piece, parts the pairs of the pieces of each part."""
    told = []
    taken = [0 for pairs in parts]
    for piece in pieces:
        row = []
        for number, many in piece:
            first = taken[number]
            taken[number] = first + many
            row.extend(parts[number][first:first + many])
        told.append(whole(row))
    return told


def run_wholes(ends, pairs):
    """The whole of each run, up to each of the ends, through the same pairs again and again."""
    told = []
    every = whole(pairs)
    copy = 0
    at = 0
    for end in ends:
        last_copy, last = divmod(end, len(pairs))
        if last_copy == copy:
            told.append(whole(pairs[at:last]))
        else:
            # The copies that lie wholly within are told by one power, as nobody could go through them.
            head = joined(whole(pairs[at:]), power(every, last_copy - copy - 1))
            told.append(joined(head, whole(pairs[:last])))
        copy = last_copy
        at = last
    return told


def crowd_wholes(k, counts, pairs):
    """The whole of each piece in which k copies do the next so many pairs, each of these all copies."""
    powers = [power(pair, k) for pair in pairs]
    told = []
    at = 0
    for count in counts:
        told.append(whole(powers[at:at + count]))
        at += count
    return told


def pieces_with(book, telling, parts):
    """The pairs of the pieces that a plan of a then, beside, times or many tells, parts those of each part's pieces."""
    if book[0] == "times":
        return tuple(run_wholes(telling, parts[0]))
    if book[0] == "many":
        return tuple(crowd_wholes(book[1], telling, parts[0])) if book[1] > 0 else ()
    return tuple(gathered_wholes(telling, parts))


def pieces_of(book, plan):
    """The pairs of all pieces of a plan, each the whole of its acts."""
    if book[0] == "act":
        return (book[1:],)
    parts = [pieces_of(part, inner) for part, inner in zip(parts_of(book), plans_in(book, plan))]
    return pieces_with(book, plan[1], parts)


def pieces_if_plan(book, thing):
    """The pairs of all pieces, None where thing, anything, is no plan of the book: all in one go, as judges ask it."""
    if book[0] == "act":
        return (book[1:],) if thing == () else None
    if not is_plan_shaped(book, thing):
        return None
    books = parts_of(book)
    plans = plans_in(book, thing)
    if len(plans) != len(books):
        return None
    parts = []
    for number, part in enumerate(books):
        pairs = pieces_if_plan(part, plans[number])
        if pairs is None:
            return None
        parts.append(pairs)
    if telling_fault(book, thing, [len(pairs) for pairs in parts]) is not None:
        return None
    return pieces_with(book, thing[1], parts)


def plan_least(book, plan):
    """The least purse that bears the order that a plan tells."""
    return whole(pieces_of(book, plan))[0]


def spots_from(number, spots):
    """The spots as they are seen from outside of the part, or copy, with that number."""
    return [(number,) + spot for spot in spots]


def gathered_spots(pieces, parts):
    """The spots of each piece, parts the spots of the pieces of each part."""
    told = []
    taken = [0 for part in parts]
    for piece in pieces:
        spots = []
        for number, many in piece:
            for at in range(taken[number], taken[number] + many):
                spots.extend(spots_from(number, parts[number][at]))
            taken[number] += many
        told.append(spots)
    return told


def run_spots(ends, part):
    """The spots of each run, up to each of the ends, through copy behind copy."""
    told = []
    at = 0
    for end in ends:
        spots = []
        for step in range(at, end):
            copy, piece = divmod(step, len(part))
            spots.extend(spots_from(copy, part[piece]))
        told.append(spots)
        at = end
    return told


def crowd_spots(k, counts, part):
    """The spots of each piece in which k copies do the next so many of a copy's pieces."""
    told = []
    at = 0
    for count in counts:
        spots = []
        for piece in part[at:at + count]:
            for copy in range(k):
                spots.extend(spots_from(copy, piece))
        told.append(spots)
        at += count
    return told


def piece_spots(book, plan):
    """The spots of each piece of a plan."""
    if book[0] == "act":
        return [[()]]
    # What has no acts, has no pieces; what stands in it may still have far more copies than one could go through.
    if not has_acts(book):
        return []
    parts = [piece_spots(part, inner) for part, inner in zip(parts_of(book), plans_in(book, plan))]
    if book[0] == "times":
        return run_spots(plan[1], parts[0])
    if book[0] == "many":
        return crowd_spots(book[1], plan[1], parts[0])
    return gathered_spots(plan[1], parts)


def spelled(book, plan):
    """The order that a plan tells, act by act: the spots."""
    if acts_in(book) > ROW:
        raise TooMany(ROW)
    return tuple([spot for piece in piece_spots(book, plan) for spot in piece])
