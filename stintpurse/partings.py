"""What parts two books, and which one serves for the other; a book's form is called its shape here."""

from stintpurse.companies import shape_beside
from stintpurse.formed import form
from stintpurse.forms import least_of
from stintpurse.looks import same
from stintpurse.pairs import is_pair


def needed(shape, test):
    """What a book of this shape needs at a test."""
    return least_of(shape) if test == () else shape_beside(shape, test)


def numbers_of(pairs):
    """All numbers of the pairs, rising, each once."""
    return sorted(set([number for pair in pairs for number in pair]))


def tests_for(one, other):
    """Tests at which any two unlike shapes part, and at one of which the one needs more if it does at any.

    What a shape needs at (Q, Q + much), and at (Q + much, Q), either rises with Q as Q does or stays. It turns from
    the one to the other only at numbers of its up, or of its down: so Q need not be anything between or beyond these.
    """
    much = max(one[1], other[1]) + 1
    tests = [()]
    tests.extend([(number, number + much) for number in numbers_of(one[0] + other[0])])
    tests.extend([(number + much, number) for number in numbers_of(one[2] + other[2])])
    return tests


def compared(one, other):
    """(test, one, other) of each test for two books, with what both need at it."""
    left = form(one)
    right = form(other)
    return [(test, needed(left, test), needed(right, test)) for test in tests_for(left, right)]


def parting(one, other):
    """A parting of two books, None where their forms are the same."""
    unlike = [told for told in compared(one, other) if told[1] != told[2]]
    return unlike[0] if unlike else None


def parting_holds(one, other, thing):
    """Whether thing, anything, is a parting of the two books."""
    if not (isinstance(thing, tuple) and len(thing) == 3):
        return False
    test = thing[0]
    if not (test == () or is_pair(test)):
        return False
    told = (test, needed(form(one), test), needed(form(other), test))
    return told[1] != told[2] and same(told, thing)


def outdone(one, other):
    """A parting at which the one needs more, None where it serves for the other one."""
    worse = [told for told in compared(one, other) if told[1] > told[2]]
    return worse[0] if worse else None


def serves(one, other):
    """Whether the one needs no more than the other one in any company."""
    return outdone(one, other) is None
