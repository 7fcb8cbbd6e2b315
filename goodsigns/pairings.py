"""Pairings: sets of ties of which no two share a place."""

from goodsigns.errors import TooMany
from goodsigns.polys import Poly
from goodsigns.rings import has_ring
from goodsigns.sweeps import mean_numbers
from goodsigns.webs import need_web

MOST_WITH_RINGS = 16


def need_pairable(web):
    """Require that a web with a ring has few places."""
    if web.places > MOST_WITH_RINGS and has_ring(web):
        raise TooMany("places", MOST_WITH_RINGS)


def pairing_poly(web):
    """The pairing poly of a web: the mean of its signs, if all are free."""
    need_web(web, "web")
    need_pairable(web)
    return Poly(mean_numbers(web, [0] * len(web.ties)))


def pairing_numbers(web):
    """The number of pairings of each size, from 0 to the greatest that there is."""
    # Each part of a pairing is a pairing: so the sizes that there are have no gaps.
    return tuple([abs(number) for number in pairing_poly(web).numbers if number != 0])
