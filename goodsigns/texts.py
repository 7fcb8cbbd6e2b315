"""Texts: items with single blanks between, read and written."""

from goodsigns.checks import DIGITS, is_within
from goodsigns.errors import BadText

MOST_DIGITS = 60


def items_of(text):
    """The items of a text, an empty one wherever blanks leave one."""
    if not isinstance(text, str):
        raise BadText(0, 0)
    return text.split(" ")


def is_integer_text(item):
    """Whether an item is an integer as texts write it."""
    digits = item.removeprefix("-")
    if not 1 <= len(digits) <= MOST_DIGITS or not all([each in DIGITS for each in digits]):
        return False
    return digits[0] != "0" or item == "0"


def integer_at(items, at, least, most):
    """The integer from least to most that stands at this index."""
    if at >= len(items) or not is_integer_text(items[at]):
        raise BadText(0, at)
    number = int(items[at])
    if not is_within(number, least, most):
        raise BadText(0, at)
    return number


def need_item(items, at, word):
    """Require this very word at this index."""
    if at >= len(items) or items[at] != word:
        raise BadText(0, at)


def need_end(items, many):
    """Require that no item stands behind so many."""
    if len(items) > many:
        raise BadText(0, many)


def integer_text(number):
    """The digits of an integer of any size."""
    # Python's str refuses integers of more than 4300 digits, so they are written in parts.
    chunk = 10 ** 64
    left = abs(number)
    parts = []
    while left >= chunk:
        parts = [str(left % chunk).zfill(64)] + parts
        left = left // chunk
    sign = "-" if number < 0 else ""
    return sign + str(left) + "".join(parts)
