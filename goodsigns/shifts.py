"""Polys shifted by bounds."""

from goodsigns.bounds import Bound, need_bound
from goodsigns.polys import need_poly


def shifted(poly, bound):
    """The numbers of poly(x + bound), that of the highest power first, as Bounds."""
    need_poly(poly, "poly")
    need_bound(bound, "bound")
    wholes = list(poly.numbers)
    parts = [0] * len(wholes)
    for end in range(poly.degree, 0, -1):
        shift_ahead(wholes, parts, bound, end)
    return tuple([Bound(whole, part, bound.under) for whole, part in zip(wholes, parts)])


def shift_ahead(wholes, parts, bound, end):
    """Add to each number from 1 to end the bound times the new one ahead of it.

    This divides by x - bound; what is left over stands at end then.
    """
    for at in range(1, end + 1):
        whole, part = wholes[at - 1], parts[at - 1]
        wholes[at] += whole * bound.whole + part * bound.part * bound.under
        parts[at] += whole * bound.part + part * bound.whole
