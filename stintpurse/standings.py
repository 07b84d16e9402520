"""Standings: how far a book has got, the ways on from there, and where they lead."""

from stintpurse.books import has_acts, is_copied, parts_of
from stintpurse.errors import NoStanding, NoWay
from stintpurse.looks import is_whole


def is_in_turn(book):
    """Whether it is a then or times."""
    return book[0] in ("then", "times")


def many_in(book):
    """How many books or copies stand directly in a book."""
    return book[1] if is_copied(book) else len(book[1])


def standing_from(book, first):
    """The standing of a then or times with all ended ahead of the book or copy of that number, and no act behind."""
    many = many_in(book)
    if is_copied(book):
        # Copies without acts are all ended, and nobody could go through them.
        at = first if has_acts(book[2]) else many
        return (at, begin(book[2])) if at < many else (many, None)
    for at in range(first, many):
        if has_acts(book[1][at]):
            return (at, begin(book[1][at]))
    return (many, None)


def begin(book):
    """The standing at first."""
    if book[0] == "act":
        return 0
    if is_in_turn(book):
        return standing_from(book, 0)
    if book[0] == "beside":
        return tuple([begin(part) for part in book[1]])
    return ((book[1], begin(book[2])),) if book[1] > 0 else ()


def within(book, standing):
    """(number, part, standing) of all that stands directly in a book and isn't held back by it.

    Numbers are as ways tell them: of a times that of the copy, of a many that of the run.
    """
    if book[0] == "act":
        return []
    if book[0] == "beside":
        return [(number, part, standing[number]) for number, part in enumerate(book[1])]
    if book[0] == "many":
        return [(number, book[2], run[1]) for number, run in enumerate(standing)]
    at, inner = standing
    if inner is None:
        return []
    return [(at, book[2] if is_copied(book) else book[1][at], inner)]


def no_act_left(book, standing):
    """Whether a book that stands so is ended."""
    if book[0] == "act":
        return standing == 1
    if is_in_turn(book):
        return standing[1] is None
    return all([no_act_left(part, inner) for number, part, inner in within(book, standing)])


def text_of(book, standing):
    """The text of a standing."""
    if book[0] == "act":
        return str(standing)
    texts = [text_of(part, inner) for number, part, inner in within(book, standing)]
    if book[0] == "beside":
        return "[" + ",".join(texts) + "]"
    if book[0] == "many":
        return "{" + ",".join([f"{run[0]}x{text}" for run, text in zip(standing, texts)]) + "}"
    return f"{standing[0]}:" + "".join(texts)


def is_run(part, thing):
    """Whether thing, anything, is (count, standing) of copies of the part."""
    if not (isinstance(thing, tuple) and len(thing) == 2):
        return False
    count, inner = thing
    return is_whole(count) and count >= 1 and is_standing(part, inner)


def are_runs(book, thing):
    """Whether a tuple is a standing of a many."""
    part = book[2]
    if not all([is_run(part, run) for run in thing]):
        return False
    texts = [text_of(part, inner) for count, inner in thing]
    return sum([count for count, inner in thing]) == book[1] and all(
        [one < other for one, other in zip(texts, texts[1:])]
    )


def is_turn(book, thing):
    """Whether a tuple is a standing of a then or times."""
    if len(thing) != 2 or not is_whole(thing[0]):
        return False
    at, inner = thing
    many = many_in(book)
    if inner is None:
        return at == many
    if not 0 <= at < many:
        return False
    part = parts_of(book)[0 if is_copied(book) else at]
    return is_standing(part, inner) and not no_act_left(part, inner)


def is_standing(book, thing):
    """Whether thing, anything, is a standing of the book."""
    if book[0] == "act":
        return is_whole(thing) and thing in (0, 1)
    if not isinstance(thing, tuple):
        return False
    if book[0] == "many":
        return are_runs(book, thing)
    if is_in_turn(book):
        return is_turn(book, thing)
    return len(thing) == len(book[1]) and all([is_standing(part, inner) for part, inner in zip(book[1], thing)])


def check_standing(book, thing):
    """Refuses what is no standing of the book."""
    if not is_standing(book, thing):
        raise NoStanding()


def is_ended(book, standing):
    """Whether no act is left."""
    check_standing(book, standing)
    return no_act_left(book, standing)


def standing_text(book, standing):
    """The text of a standing."""
    check_standing(book, standing)
    return text_of(book, standing)


def ways_on(book, standing):
    """The ways to all acts that can come next, rising."""
    if book[0] == "act":
        return [()] if standing == 0 else []
    return [
        (number,) + way for number, part, inner in within(book, standing) for way in ways_on(part, inner)
    ]


def ways(book, standing):
    """The ways on from a standing, rising."""
    check_standing(book, standing)
    return tuple(ways_on(book, standing))


def entered(book, standing, number):
    """(part, standing) of what stands directly in a book by that number, anything; None where it may not go on."""
    if not is_whole(number):
        return None
    for at, part, inner in within(book, standing):
        if at == number:
            return (part, inner)
    return None


def is_way(book, standing, thing):
    """Whether thing, anything, is a way on."""
    if not isinstance(thing, tuple):
        return False
    here = (book, standing)
    for number in thing:
        here = entered(here[0], here[1], number)
        if here is None:
            return False
    # Only an act stands at 0, one that is still to be done.
    return here[1] == 0


def gathered(part, runs):
    """Runs of copies of a part as a standing: what stands alike in one, by rising texts."""
    table = {}
    for count, inner in runs:
        text = text_of(part, inner)
        many = table[text][0] if text in table else 0
        table[text] = (many + count, inner)
    return tuple([table[text] for text in sorted(list(table))])


def with_within(book, standing, number, inner):
    """The standing of a book once what stands in it by that number has come to stand otherwise."""
    if book[0] == "beside":
        return standing[:number] + (inner,) + standing[number + 1:]
    if book[0] == "many":
        count, old = standing[number]
        left = ((count - 1, old),) if count > 1 else ()
        return gathered(book[2], standing[:number] + left + standing[number + 1:] + ((1, inner),))
    part = book[2] if is_copied(book) else book[1][number]
    return standing_from(book, number + 1) if no_act_left(part, inner) else (number, inner)


def stood_on(book, standing, way, inner):
    """The standing of a book once the part to which a way leads has come to stand so."""
    if len(way) == 0:
        return inner
    part, old = entered(book, standing, way[0])
    return with_within(book, standing, way[0], stood_on(part, old, way[1:], inner))


def gone(book, standing, way):
    """The standing behind the act to which a way leads."""
    check_standing(book, standing)
    if not is_way(book, standing, way):
        raise NoWay(way)
    return stood_on(book, standing, way, 1)


def act_at(book, way):
    """The pair of the act to which a way or spot leads, copies by whatever numbers there are."""
    if not isinstance(way, tuple):
        raise NoWay(way)
    part = book
    for number in way:
        if part[0] == "act" or not (is_whole(number) and 0 <= number < many_in(part)):
            raise NoWay(way)
        part = part[2] if is_copied(part) else part[1][number]
    if part[0] != "act":
        raise NoWay(way)
    return part[1:]
