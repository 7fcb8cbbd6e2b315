"""Bounds: numbers u + v root c."""

from goodsigns.checks import need_integer
from goodsigns.errors import BadBound, Misfit
from goodsigns.texts import integer_at, integer_text, items_of, need_end


class Bound:
    """The number whole + part root under."""

    def __init__(self, whole, part, under):
        self.whole = need_integer(whole, "whole", None, None)
        self.part = need_integer(part, "part", None, None)
        self.under = need_integer(under, "under", 0, None)

    def __eq__(self, other):
        if not isinstance(other, Bound):
            return False
        return self.whole == other.whole and self.part == other.part and self.under == other.under

    def __str__(self):
        return " ".join([integer_text(each) for each in (self.whole, self.part, self.under)])

    @staticmethod
    def read(text):
        """The Bound whose text this is."""
        items = items_of(text)
        whole = integer_at(items, 0, None, None)
        part = integer_at(items, 1, None, None)
        under = integer_at(items, 2, 0, None)
        need_end(items, 3)
        return Bound(whole, part, under)


def need_bound(value, part):
    """The value, if it is a Bound."""
    if not isinstance(value, Bound):
        raise BadBound(part)
    return value


def common_under(one, other):
    """The under of the first bound, or of the second one if only this one has a part."""
    if one.under != other.under and one.part != 0 and other.part != 0:
        raise Misfit("under")
    # If both have a part the unders are equal.
    return one.under if other.part == 0 else other.under


def sign_of_integer(number):
    """1 above 0, -1 below, else 0."""
    if number == 0:
        return 0
    return 1 if number > 0 else -1


def sign_of(bound):
    """1 if the number is above 0, -1 if it is below, else 0."""
    need_bound(bound, "bound")
    whole, part = sign_of_integer(bound.whole), sign_of_integer(bound.part)
    rooted = part if bound.under > 0 else 0
    if whole * rooted >= 0:
        return sign_of_integer(whole + rooted)
    # The signs are opposite: the greater square tells.
    return whole * sign_of_integer(bound.whole ** 2 - bound.part ** 2 * bound.under)


def added(one, other):
    """The sum of two bounds that fit."""
    need_bound(one, "one")
    need_bound(other, "other")
    return Bound(one.whole + other.whole, one.part + other.part, common_under(one, other))


def multiplied(one, other):
    """The product of two bounds that fit."""
    need_bound(one, "one")
    need_bound(other, "other")
    under = common_under(one, other)
    whole = one.whole * other.whole + one.part * other.part * under
    return Bound(whole, one.whole * other.part + one.part * other.whole, under)


def at_most(one, other):
    """Whether the first number is not above the second one."""
    need_bound(one, "one")
    need_bound(other, "other")
    under = common_under(one, other)
    return sign_of(Bound(one.whole - other.whole, one.part - other.part, under)) <= 0
