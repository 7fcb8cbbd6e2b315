"""Polys: polynomials in x with integers, the first of them above 0."""

from goodsigns.checks import are_integers, common_divisor, need_integer
from goodsigns.errors import BadPoly, Misfit, TooMany
from goodsigns.texts import integer_at, integer_text, items_of, need_end

MOST_NUMBERS = 64


class Poly:
    """A poly, told by its numbers, that of the highest power first."""

    def __init__(self, numbers):
        if not are_integers(numbers) or not 1 <= len(numbers) <= MOST_NUMBERS:
            raise BadPoly("numbers")
        if numbers[0] <= 0:
            raise BadPoly("first")
        self.numbers = tuple(numbers)
        self.degree = len(numbers) - 1

    def __eq__(self, other):
        return isinstance(other, Poly) and self.numbers == other.numbers

    def __str__(self):
        return " ".join([integer_text(number) for number in self.numbers])

    def worth(self, x):
        """What the poly is at an integer."""
        need_integer(x, "x", None, None)
        total = 0
        for number in self.numbers:
            total = total * x + number
        return total

    @staticmethod
    def read(text):
        """The Poly whose text this is."""
        items = items_of(text)
        numbers = [integer_at(items, 0, 1, None)]
        for at in range(1, min(len(items), MOST_NUMBERS)):
            numbers.append(integer_at(items, at, None, None))
        need_end(items, MOST_NUMBERS)
        return Poly(numbers)


def need_poly(value, part):
    """The value, if it is a Poly."""
    if not isinstance(value, Poly):
        raise BadPoly(part)
    return value


def times(one, other):
    """The product of two polys."""
    need_poly(one, "one")
    need_poly(other, "other")
    many = one.degree + other.degree + 1
    if many > MOST_NUMBERS:
        raise TooMany("numbers", MOST_NUMBERS)
    found = [0] * many
    for i, mine in enumerate(one.numbers):
        for j, its in enumerate(other.numbers):
            found[i + j] += mine * its
    return Poly(found)


def mixed(one, other, mine, its):
    """Mine times the one poly and its times the other one, added."""
    need_poly(one, "one")
    need_poly(other, "other")
    need_integer(mine, "mine", 0, None)
    need_integer(its, "its", 1 if mine == 0 else 0, None)
    if one.degree != other.degree:
        raise Misfit("degree")
    return Poly([mine * a + its * b for a, b in zip(one.numbers, other.numbers)])


def divided(poly, by):
    """The poly that, times by, is the first one."""
    need_poly(poly, "poly")
    need_poly(by, "by")
    rest = list(poly.numbers)
    found = []
    for at in range(poly.degree - by.degree + 1):
        share = rest[at] // by.numbers[0]
        found.append(share)
        for k, number in enumerate(by.numbers):
            rest[at + k] -= share * number
    # What a share leaves of its number, if anything, stands in the rest.
    if any(rest):
        raise Misfit("rest")
    return Poly(found)


def derived_numbers(numbers):
    """The numbers of the derivative, none of a number alone."""
    degree = len(numbers) - 1
    return [number * (degree - at) for at, number in enumerate(numbers[:-1])]


def derived(poly):
    """The derived poly."""
    need_poly(poly, "poly")
    if poly.degree == 0:
        raise Misfit("degree")
    return Poly(derived_numbers(poly.numbers))


def in_squares(poly):
    """Power, 0 or 1, and the poly q for which the poly is x^power q(x^2)."""
    need_poly(poly, "poly")
    if any(poly.numbers[1::2]):
        raise Misfit("even")
    return poly.degree % 2, Poly(poly.numbers[::2])


def lessened(poly):
    """The poly with all numbers divided by the greatest integer that divides them all."""
    need_poly(poly, "poly")
    divisor = common_divisor(poly.numbers)
    return Poly([number // divisor for number in poly.numbers])
