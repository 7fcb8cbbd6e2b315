"""Sums in the mean of two polys, and two-sided sums."""

from math import comb, factorial

from goodsigns.checks import need_integer
from goodsigns.errors import Misfit
from goodsigns.polys import MOST_NUMBERS, Poly, lessened, need_poly
from goodsigns.rows import product_sum


def need_like_polys(one, other):
    """Require two polys of the same degree."""
    need_poly(one, "one")
    need_poly(other, "other")
    if one.degree != other.degree:
        raise Misfit("degree")


def factorials_down(degree):
    """The factorials of the degree and of all integers below it, down to that of 0."""
    return [factorial(degree - at) for at in range(degree + 1)]


def weighted_sum(one, other, factors):
    """The poly, in lowest terms, in which the product of the numbers at i and j has this weight at i + j.

    The weight is factors[i] factors[j] / (factors[0] factors[i + j]).
    """
    mine = [number * factor for number, factor in zip(one.numbers, factors)]
    its = [number * factor for number, factor in zip(other.numbers, factors)]
    # Each factor divides the first one: so the square of this one makes all weights integers.
    found = [product_sum(mine, its[k::-1]) * (factors[0] // factor) for k, factor in enumerate(factors)]
    return lessened(Poly(found))


def mean_sum(one, other):
    """The sum in the mean of two polys."""
    need_like_polys(one, other)
    return weighted_sum(one, other, factorials_down(one.degree))


def two_sided_sum(one, other):
    """The two-sided sum of two polys, whose weights are the squares of the others."""
    need_like_polys(one, other)
    return weighted_sum(one, other, [factor ** 2 for factor in factorials_down(one.degree)])


def ones(degree):
    """The poly (x - 1)^degree."""
    need_integer(degree, "degree", 0, MOST_NUMBERS - 1)
    return Poly([comb(degree, at) * (1 - 2 * (at % 2)) for at in range(degree + 1)])
