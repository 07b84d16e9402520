"""Another part in the place of one that isn't begun: whether it is, and how the book stands then."""

from stintpurse.books import has_acts, is_copied, parts_of
from stintpurse.standings import begin, gathered, many_in, with_within


def end_of(book):
    """The standing of a book that is ended."""
    if book[0] == "act":
        return 1
    if book[0] == "beside":
        return tuple([end_of(part) for part in book[1]])
    if book[0] == "many":
        return ((book[1], end_of(book[2])),) if book[1] > 0 else ()
    return (many_in(book), None)


def inner_standing(book, standing, number):
    """How the book of that number in a then stands, or the first copy in a times that has one."""
    part = parts_of(book)[number]
    at, inner = standing
    if number == at:
        return inner
    return end_of(part) if number < at else begin(part)


def done_between(book, first, last):
    """Whether acts are done in a then's or times' books or copies from first to below last, all of which are ended."""
    if is_copied(book):
        return first < last and has_acts(book[2])
    return any([has_acts(part) for part in book[1][first:last]])


def done_behind(book, standing, number):
    """Whether an act is done in a book or copy behind the one of that number in a then or times."""
    at, inner = standing
    if done_between(book, number + 1, at):
        return True
    if inner is None or at <= number:
        return False
    return inner != begin(book[2] if is_copied(book) else book[1][at])


def is_begun(book, standing, place):
    """Whether an act is done in the part at a place, or behind it in a then or times round it, in any copy."""
    if len(place) == 0:
        return standing != begin(book)
    number = place[0]
    deeper = place[1:]
    if book[0] == "beside":
        return is_begun(book[1][number], standing[number], deeper)
    if book[0] == "many":
        return any([is_begun(book[2], inner, deeper) for count, inner in standing])
    if many_in(book) == 0:
        return False
    # Of a times the first copy tells it, as all others stand behind it.
    part = parts_of(book)[number]
    return done_behind(book, standing, number) or is_begun(part, inner_standing(book, standing, number), deeper)


def standing_with(book, made, standing, place):
    """How a book stands, made with another part at a place where the old one wasn't begun."""
    if len(place) == 0:
        return begin(made)
    number = place[0]
    deeper = place[1:]
    part = parts_of(book)[number]
    other = parts_of(made)[number]
    if book[0] == "beside":
        inner = standing_with(part, other, standing[number], deeper)
        return standing[:number] + (inner,) + standing[number + 1:]
    if book[0] == "many":
        return gathered(other, [(count, standing_with(part, other, inner, deeper)) for count, inner in standing])
    if many_in(book) == 0 or number > standing[0]:
        return standing
    inner = standing_with(part, other, inner_standing(book, standing, number), deeper)
    return with_within(made, standing, number, inner)
