"""Fronts: all standings of a small book, and the rows of ways that lead from its beginning to its end."""

from stintpurse.books import is_copied
from stintpurse.bounds import FRONTS
from stintpurse.errors import NoNumber, NoPurse, TooMany
from stintpurse.looks import is_whole
from stintpurse.rests import got_of
from stintpurse.safety import is_purse
from stintpurse.standings import act_at, begin, stood_on, text_of, ways_on


def crowd_count(kinds, copies, most):
    """In how many ways so many copies can stand, each in one of so many kinds; beyond most just some greater number."""
    ways_to = 1
    less = min(kinds - 1, copies)
    more = max(kinds - 1, copies)
    for step in range(1, less + 1):
        ways_to = ways_to * (more + step) // step
        if ways_to > most:
            return ways_to
    return ways_to


def turn_count(book, counts):
    """How many standings a then or times has, counts those of its parts: the last one of each part is none of it."""
    copies = book[1] if is_copied(book) else 1
    return 1 + copies * sum([count - 1 for count in counts])


def front_count(book, most):
    """How many standings a book has; beyond most just some greater number."""
    if book[0] == "act":
        return 2
    if is_copied(book):
        inner = front_count(book[2], most)
        return turn_count(book, [inner]) if book[0] == "times" else crowd_count(inner, book[1], most)
    counts = [front_count(part, most) for part in book[1]]
    if book[0] == "then":
        return turn_count(book, counts)
    every = 1
    for count in counts:
        every = min(every, most + 1) * count
    return every


def turn_fronts(book):
    """All fronts of a then or times."""
    if book[0] == "then":
        parts = [fronts_in(part) for part in book[1]]
    else:
        one = fronts_in(book[2]) if book[1] > 0 else []
        # Copies of one front only have no act, and nobody could go through them.
        parts = [one for copy in range(book[1])] if len(one) > 1 else []
    told = []
    ahead = 0
    for number, inner in enumerate(parts):
        acts = max([done for done, text, standing in inner])
        told.extend([
            (ahead + done, f"{number}:{text}", (number, standing)) for done, text, standing in inner if done < acts
        ])
        ahead += acts
    many = book[1] if is_copied(book) else len(parts)
    return told + [(ahead, f"{many}:", (many, None))]


def woven_fronts(parts):
    """All fronts of a beside, parts those of its books."""
    told = [(0, [], ())]
    for inner in parts:
        told = [
            (ahead + done, texts + [text], standings + (standing,))
            for ahead, texts, standings in told for done, text, standing in inner
        ]
    return [(done, "[" + ",".join(texts) + "]", standings) for done, texts, standings in told]


def crowd_fronts(copies, inner):
    """All fronts of so many copies beside one another, inner those of one."""
    kinds = sorted(inner, key=lambda front: front[1])
    told = []
    begun = [(copies, 0, [], ())]
    for number, (done, text, standing) in enumerate(kinds):
        going_on = []
        for left, ahead, texts, runs in begun:
            fewest = 0 if number + 1 < len(kinds) else left
            for count in range(fewest, left + 1):
                run = ([f"{count}x{text}"], ((count, standing),)) if count > 0 else ([], ())
                entry = (left - count, ahead + count * done, texts + run[0], runs + run[1])
                if count == left:
                    told.append(entry)
                else:
                    going_on.append(entry)
        begun = going_on
    return [(done, "{" + ",".join(texts) + "}", runs) for left, done, texts, runs in told]


def fronts_in(book):
    """(acts done, text, standing) of all standings of a book that has not too many."""
    if book[0] == "act":
        return [(0, "0", 0), (1, "1", 1)]
    if book[0] in ("then", "times"):
        return turn_fronts(book)
    if book[0] == "beside":
        return woven_fronts([fronts_in(part) for part in book[1]])
    return crowd_fronts(book[1], fronts_in(book[2])) if book[1] > 0 else [(0, "{}", ())]


def all_fronts(book, most):
    """All fronts, by how many acts are done, then by their texts; TooMany where they are more than most."""
    if front_count(book, most) > most:
        raise TooMany(most)
    return sorted(fronts_in(book), key=lambda front: front[:2])


def fronts(book, *, most=FRONTS):
    """All standings that can be come to from the beginning."""
    return tuple([standing for done, text, standing in all_fronts(book, most)])


def steps_on(book, standing, purse):
    """(way, text behind it) of all ways on that are borne, purse what was there at the beginning."""
    held = purse + got_of(book, standing)
    borne = [way for way in ways_on(book, standing) if act_at(book, way)[0] <= held]
    return [(way, text_of(book, stood_on(book, standing, way, 1))) for way in borne]


def rows_from(book, purse):
    """How many rows that the purse bears lead from each front, told by its text, to the end."""
    found = all_fronts(book, FRONTS)
    if not is_purse(purse):
        raise NoPurse(purse)
    # The last one is the end, from which one row leads there, the one without a way.
    rows = {found[-1][1]: 1}
    for done, text, standing in found[-2::-1]:
        rows[text] = sum([rows[behind] for way, behind in steps_on(book, standing, purse)])
    return rows


def rows_through(book, purse):
    """How many rows of ways that the purse bears lead from the beginning to the end."""
    return rows_from(book, purse)[text_of(book, begin(book))]


def row_at(book, purse, number):
    """The row of that number, from 0, of all that the purse bears, by Python's order of tuples."""
    rows = rows_from(book, purse)
    standing = begin(book)
    if not (is_whole(number) and 0 <= number < rows[text_of(book, standing)]):
        raise NoNumber(number)
    left = number
    row = []
    steps = steps_on(book, standing, purse)
    while len(steps) > 0:
        at = 0
        while left >= rows[steps[at][1]]:
            left -= rows[steps[at][1]]
            at += 1
        row.append(steps[at][0])
        standing = stood_on(book, standing, steps[at][0], 1)
        steps = steps_on(book, standing, purse)
    return tuple(row)
