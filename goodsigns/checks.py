"""What values are, and whole numbers that divide or measure others."""

from math import gcd, isqrt

from goodsigns.errors import BadNumber, Twice

LETTERS = "abcdefghijklmnopqrstuvwxyz"
DIGITS = "0123456789"
LONGEST_NAME = 12


def is_integer(value):
    """Whether a value is an integer; True and False are none."""
    return isinstance(value, int) and not isinstance(value, bool)


def is_within(value, least, most):
    """Whether a value is an integer from least to most, None being no bound."""
    if not is_integer(value) or (least is not None and value < least):
        return False
    return most is None or value <= most


def is_row(value):
    """Whether a value is a list or a tuple."""
    return isinstance(value, (list, tuple))


def are_integers(value):
    """Whether a value is a list or tuple of integers, perhaps of none."""
    return is_row(value) and all([is_integer(each) for each in value])


def is_name(value):
    """Whether a value is a name: a letter, then letters and digits, 12 characters at most."""
    if not isinstance(value, str) or not 1 <= len(value) <= LONGEST_NAME:
        return False
    return value[0] in LETTERS and all([each in LETTERS or each in DIGITS for each in value])


def need_integer(value, part, least, most):
    """The value, if it is an integer from least to most."""
    if not is_within(value, least, most):
        raise BadNumber(part)
    return value


def need_integers(value, part):
    """The value as a tuple, if it is a list of integers."""
    if not are_integers(value):
        raise BadNumber(part)
    return tuple(value)


def need_unlike(values):
    """Require that none of some integers equals one ahead of it."""
    ahead = {}
    for value in values:
        if value in ahead:
            raise Twice(value)
        ahead[value] = True


def common_divisor(values):
    """The greatest integer that divides all values, 0 if all are 0 or there is none."""
    divisor = 0
    for value in need_integers(values, "values"):
        divisor = gcd(divisor, value)
    return divisor


def whole_root(number):
    """The greatest integer whose square is not above the number."""
    return isqrt(need_integer(number, "number", 0, None))
