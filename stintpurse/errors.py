"""The refusals: each stands directly under StintError and is made of its fields, in their order.

The fields are kept as they are, and no message is made of them: a number may have
more figures than Python turns into a text, and making a refusal must never fail.
"""


class StintError(ValueError):
    """What all refusals of this program are."""


class Short(StintError):
    """The purse lacks something at the pair with the number at."""

    def __init__(self, at, lacks):
        self.at = at
        self.lacks = lacks


class BadBook(StintError):
    """What stands at place keeps the thing from being a book."""

    def __init__(self, place, why):
        self.place = place
        self.why = why


class NoPlace(StintError):
    """No place in the book."""

    def __init__(self, place):
        self.place = place


class TooMany(StintError):
    """More than are allowed here."""

    def __init__(self, most):
        self.most = most


class NoOrder(StintError):
    """No order of the book."""


class NoMove(StintError):
    """No move of the order, or one behind which it is no order."""


class BadCompany(StintError):
    """No company."""


class NoStanding(StintError):
    """No standing of the book."""


class NoWay(StintError):
    """No way on."""

    def __init__(self, way):
        self.way = way


class NoPurse(StintError):
    """Nothing that a purse can hold."""

    def __init__(self, purse):
        self.purse = purse


class NoPart(StintError):
    """No part under way."""

    def __init__(self, place):
        self.place = place


class NoNumber(StintError):
    """No number of a row."""

    def __init__(self, number):
        self.number = number


class Long(StintError):
    """As many deeds stand on the bench as may."""


class Doomed(StintError):
    """The bench would stand unsafe, lacking so much."""

    def __init__(self, lacks):
        self.lacks = lacks


class NoStretch(StintError):
    """The part has no stretch."""


class Begun(StintError):
    """The part is begun."""

    def __init__(self, place):
        self.place = place


class Nothing(StintError):
    """No deed stands that could be taken back."""


class NoText(StintError):
    """No text of what is read; at tells how far it could have been one."""

    def __init__(self, at):
        self.at = at
