"""Towers: storeys of signs, each on the cover by the one below it."""

from goodsigns.bounds import need_bound
from goodsigns.check_signs import are_within
from goodsigns.checks import is_row, need_integer
from goodsigns.choices import good_signs, told_pairings
from goodsigns.covers import cover
from goodsigns.errors import Misfit, TooMany
from goodsigns.means import MOST_PLACES, MOST_RINGS
from goodsigns.papers import Denial, Paper, is_same
from goodsigns.rings import has_more_rings
from goodsigns.webs import need_alike_places, need_web, two_sides

MOST_STOREYS = 9


class Tower(Paper):
    """Storeys, each of them signs whose poly is within the bound."""

    def __init__(self, signs):
        Paper.__init__(self, "tower", signs)
        self.signs = self.parts[0]


class TowerTooGreat(Denial):
    """Some storeys, and the power that shows that the pairing poly of the web on top is not within the bound."""

    def __init__(self, signs, power):
        Denial.__init__(self, "towertoogreat", signs, power)
        self.signs = self.parts[0]
        self.power = self.parts[1]


def need_ground(web, storeys, bound):
    """Require a web that can carry so many storeys, and a bound."""
    need_web(web, "web")
    need_integer(storeys, "storeys", 0, MOST_STOREYS)
    need_bound(bound, "bound")
    if not two_sides(web):
        raise Misfit("sides")
    need_alike_places(web)
    # Without a storey there is no last one, and a web of any number of places will do.
    if storeys > 0 and web.places << (storeys - 1) > MOST_PLACES:
        raise TooMany("places", MOST_PLACES)


def tower(web, storeys, bound):
    """A tower of so many storeys, each one told by good_signs, its ties in their order."""
    need_ground(web, storeys, bound)
    told = []
    top = web
    for _ in range(storeys):
        good = good_signs(top, bound, list(range(len(top.ties))))
        if not good:
            return TowerTooGreat(told, good.power)
        told.append(good.signs)
        top = cover(top, good.signs)
    return Tower(told)


def web_on_top(web, bound, told):
    """The web on top of some storeys, None if one of them is no signs of its web within the bound."""
    top = web
    for signs in told:
        if not are_within(top, bound, signs):
            return None
        top = cover(top, signs)
    return top


def is_too_great(web, bound, paper):
    """Whether the pairing poly of the web on top of the storeys of a paper is not within the bound, by its power."""
    top = web_on_top(web, bound, paper.signs)
    if top is None or has_more_rings(top, MOST_RINGS):
        return False
    told = told_pairings(top, bound)
    return not told and is_same(told.power, paper.power)


def shows_tower(web, storeys, bound, value):
    """Whether a value is a right paper of tower."""
    need_ground(web, storeys, bound)
    if type(value) is Tower and is_row(value.signs) and len(value.signs) == storeys:
        return web_on_top(web, bound, value.signs) is not None
    if type(value) is TowerTooGreat and is_row(value.signs) and len(value.signs) < storeys:
        return is_too_great(web, bound, value)
    return False
