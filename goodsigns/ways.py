"""Ways from a place, and the tree that they make."""

from goodsigns.errors import Misfit, TooMany
from goodsigns.pairings import need_pairable, pairing_poly
from goodsigns.polys import divided
from goodsigns.webs import Web, is_joined, need_place, need_web

MOST_WAYS = 60


def longer_ways(web, ways):
    """The ways that are one place longer than these, ascending as they are."""
    return [way + (near,) for way in ways for near in web.neighbours(way[-1]) if near not in way]


def ways_from(web, place):
    """All ways from a place, shorter ones first, those of one length ascending."""
    need_web(web, "web")
    need_place(web, place)
    found = []
    level = [(place,)]
    while level:
        found = found + level
        if len(found) > MOST_WAYS:
            raise TooMany("ways", MOST_WAYS)
        level = longer_ways(web, level)
    return tuple(found)


def tree_of_ways(web, place):
    """The web of all ways from a place, each tied to the one without its last place."""
    ways = ways_from(web, place)
    numbers = {way: at for at, way in enumerate(ways)}
    return Web(len(ways), [(numbers[way[:-1]], numbers[way]) for way in ways[1:]])


def left_over(web, place):
    """The poly that, times the pairing poly of the web, is that of the tree of ways."""
    need_web(web, "web")
    need_place(web, place)
    if not is_joined(web):
        raise Misfit("web")
    need_pairable(web)
    return divided(pairing_poly(tree_of_ways(web, place)), pairing_poly(web))
