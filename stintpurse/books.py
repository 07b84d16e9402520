"""Books: acts, put together one behind another, beside one another, and in copies."""

from stintpurse.bounds import BOOKS, COPIES, DEEP, MOST
from stintpurse.errors import BadBook, NoPlace
from stintpurse.looks import is_whole

LENGTHS = {"act": 3, "then": 2, "beside": 2, "times": 3, "many": 3}


def is_up_to(thing, most):
    """Whether thing is a whole number from 0 to most."""
    return is_whole(thing) and 0 <= thing <= most


def is_worded(thing):
    """Whether thing begins as one of the five kinds of books does, and is as long as that wants."""
    if not isinstance(thing, tuple) or len(thing) == 0:
        return False
    word = thing[0]
    return isinstance(word, str) and LENGTHS.get(word, 0) == len(thing)


def is_copied(book):
    """Whether it is a times or many."""
    return book[0] in ("times", "many")


def parts_of(book):
    """The books directly in a book, in their order."""
    if book[0] == "act":
        return ()
    if is_copied(book):
        return (book[2],)
    return book[1]


def field_fault(thing):
    """What is wrong with what stands behind a book's word, None where nothing is."""
    if thing[0] == "act":
        if not is_up_to(thing[1], MOST):
            return "need"
        return None if is_up_to(thing[2], MOST) else "leave"
    if is_copied(thing):
        return None if is_up_to(thing[1], COPIES) else "many"
    return None if isinstance(thing[1], tuple) else "books"


def copies_with(book, copies):
    """The copies on the way to a book, with its own; none count as one, so that what is in them is bounded, too."""
    return copies * max(1, book[1]) if is_copied(book) else copies


def own_fault(thing, around, copies):
    """What is wrong at this very place, with so many books round it and so many copies on the way to it."""
    if not is_worded(thing):
        return "book"
    why = field_fault(thing)
    if why is not None:
        return why
    if around >= DEEP:
        return "deep"
    return "copies" if copies_with(thing, copies) > COPIES else None


def first_fault(thing, place, copies):
    """The first fault, but that of size, in preorder."""
    why = own_fault(thing, len(place), copies)
    if why is not None:
        return (place, why)
    within = copies_with(thing, copies)
    for number, part in enumerate(parts_of(thing)):
        fault = first_fault(part, place + (number,), within)
        if fault is not None:
            return fault
    return None


def bookfault(thing):
    """None where thing, anything, is a book, else (place, why) of the first fault."""
    fault = first_fault(thing, (), 1)
    if fault is not None:
        return fault
    return ((), "size") if len(places_of(thing)) > BOOKS else None


def is_place(book, thing):
    """Whether thing, anything, is a place in the book."""
    if not isinstance(thing, tuple):
        return False
    part = book
    for number in thing:
        parts = parts_of(part)
        if not (is_whole(number) and 0 <= number < len(parts)):
            return False
        part = parts[number]
    return True


def part_at(book, place):
    """The part of the book at a place."""
    if not is_place(book, place):
        raise NoPlace(place)
    part = book
    for number in place:
        part = parts_of(part)[number]
    return part


def with_part(book, place, part):
    """The book with another part at a place that it has, whatever comes of it."""
    if len(place) == 0:
        return part
    if is_copied(book):
        return (book[0], book[1], with_part(book[2], place[1:], part))
    number = place[0]
    books = book[1]
    new = with_part(books[number], place[1:], part)
    return (book[0], books[:number] + (new,) + books[number + 1:])


def changed(book, place, part):
    """The book with another part, anything, at a place."""
    if not is_place(book, place):
        raise NoPlace(place)
    made = with_part(book, place, part)
    fault = bookfault(made)
    if fault is not None:
        raise BadBook(fault[0], fault[1])
    return made


def places_of(book):
    """All places of the book, in preorder."""
    places = [()]
    for number, part in enumerate(parts_of(book)):
        places.extend([(number,) + place for place in places_of(part)])
    return tuple(places)


def acts_in(book):
    """How many acts are done in all."""
    if book[0] == "act":
        return 1
    acts = sum([acts_in(part) for part in parts_of(book)])
    return book[1] * acts if is_copied(book) else acts


def has_acts(book):
    """Whether any act is done at all."""
    if book[0] == "act":
        return True
    if is_copied(book):
        return book[1] > 0 and has_acts(book[2])
    for part in book[1]:
        if has_acts(part):
            return True
    return False


def gain_of(book):
    """What all acts gain together."""
    if book[0] == "act":
        return book[2] - book[1]
    gain = sum([gain_of(part) for part in parts_of(book)])
    return book[1] * gain if is_copied(book) else gain


def turned_book(book):
    """The book turned about: acts exchanged, books of a then in the other order."""
    word = book[0]
    if word == "act":
        return (word, book[2], book[1])
    if is_copied(book):
        return (word, book[1], turned_book(book[2]))
    turned = tuple([turned_book(part) for part in book[1]])
    return (word, turned[::-1] if word == "then" else turned)
