"""Best plans: an order that the least purse bears, and the paper that shows that it is the least."""

from stintpurse.books import is_copied, parts_of
from stintpurse.formed import forms_paper, least, paper_holds
from stintpurse.forms import is_form, least_of
from stintpurse.looks import is_whole
from stintpurse.pairs import power, whole
from stintpurse.plans import pieces_if_plan, pieces_with
from stintpurse.weaving import stretches_of, turn_of


def takings(numbers):
    """The (number, many) of a piece that takes one piece of each of these books, in this order."""
    told = []
    for number in numbers:
        if told and told[-1][0] == number:
            told[-1] = (number, told[-1][1] + 1)
        else:
            told.append((number, 1))
    return tuple(told)


def best_pieces(word, parts):
    """The pieces of a then or beside, parts the pairs of each part's pieces."""
    tagged = [(number, pair) for number, pairs in enumerate(parts) for pair in pairs]
    if word == "beside":
        tagged = sorted(tagged, key=lambda entry: turn_of(entry[1]))
    numbers = [number for number, pair in tagged]
    stretches = stretches_of(tuple([pair for number, pair in tagged]))
    return tuple([takings(numbers[first:last]) for first, last in stretches])


def best_ends(k, pairs):
    """The ends of k copies one behind another, pairs those of the copy's pieces."""
    if k == 0:
        return ()
    if k == 1:
        return tuple([last for first, last in stretches_of(pairs)])
    every = len(pairs)
    ends = [last for first, last in stretches_of(pairs + pairs)]
    # One stretch of two copies goes from the one into the other, and takes in whatever copies stand between these.
    return tuple([end if end < every else end + (k - 2) * every for end in ends])


def best_counts(k, pairs):
    """The counts of k copies beside one another, pairs those of the copy's pieces."""
    powers = tuple([power(pair, max(1, k)) for pair in pairs])
    return tuple([last - first for first, last in stretches_of(powers)])


def best_telling(book, parts):
    """What the best plan tells of how the pieces of its parts, told by their pairs, are put together."""
    if book[0] == "times":
        return best_ends(book[1], parts[0])
    if book[0] == "many":
        return best_counts(book[1], parts[0])
    return best_pieces(book[0], parts)


def planned(book):
    """(plan, the pairs of its pieces): the pieces are the stretches of the book's form."""
    if book[0] == "act":
        return ((), (book[1:],))
    inner = [planned(part) for part in parts_of(book)]
    plans = tuple([plan for plan, pairs in inner])
    parts = [pairs for plan, pairs in inner]
    telling = best_telling(book, parts)
    plan = (plans[0] if is_copied(book) else plans, telling)
    return (plan, pieces_with(book, telling, parts))


def best_plan(book):
    """A plan that the least purse bears."""
    return planned(book)[0]


def purse_paper(book):
    """(purse, plan, paper): the least purse, a plan that it bears, and the forms paper."""
    return (least(book), best_plan(book), forms_paper(book))


def is_paper_of(purse, thing):
    """Whether thing, anything, may be a forms paper with just this purse as the least one."""
    if not (isinstance(thing, tuple) and len(thing) == 2 and is_form(thing[0])):
        return False
    return least_of(thing[0]) == purse


def purse_holds(book, thing):
    """Whether thing, anything, is (purse, plan, paper) of the book, whatever plan the purse bears."""
    if not (isinstance(thing, tuple) and len(thing) == 3):
        return False
    purse, plan, paper = thing
    # What the paper itself tells of the purse is looked at first, as it takes next to no time.
    if not (is_whole(purse) and is_paper_of(purse, paper) and paper_holds(book, paper)):
        return False
    pieces = pieces_if_plan(book, plan)
    return pieces is not None and whole(pieces)[0] <= purse
