"""Means of signs, some of them free."""

from goodsigns.errors import TooMany
from goodsigns.polys import Poly
from goodsigns.rings import has_more_rings
from goodsigns.signs import need_signs
from goodsigns.sweeps import mean_numbers

MOST_PLACES = 24
MOST_RINGS = 5000


def need_few_rings(web):
    """Require a web that has few places and few rings."""
    if web.places > MOST_PLACES:
        raise TooMany("places", MOST_PLACES)
    if has_more_rings(web, MOST_RINGS):
        raise TooMany("rings", MOST_RINGS)


def mean_of(web, signs):
    """The mean of signs, of a web that is known to have few rings."""
    return Poly(mean_numbers(web, signs))


def mean_poly(web, signs):
    """The mean of signs, as a Poly."""
    told = need_signs(web, signs, True)
    need_few_rings(web)
    return mean_of(web, told)
