"""Signs on the ties of a web, their tables and polys."""

from goodsigns.checks import are_integers
from goodsigns.errors import BadSigns, TooMany
from goodsigns.tables import MOST_ROWS, table_poly
from goodsigns.webs import need_place, need_web, places_without


def are_signs(web, value, is_free):
    """Whether a value is signs of a web; is_free tells whether free ties are let."""
    if not are_integers(value) or len(value) != len(web.ties):
        return False
    return all([sign in (1, -1) or (is_free and sign == 0) for sign in value])


def told_signs(web, value, part, is_free):
    """The value as a tuple, if it is signs of a web."""
    if not are_signs(web, value, is_free):
        raise BadSigns(part)
    return tuple(value)


def need_signs(web, signs, is_free):
    """The signs of a web, as a tuple; is_free tells whether free ties are let."""
    need_web(web, "web")
    return told_signs(web, signs, "signs", is_free)


def table_of(web, signs):
    """The table of signs, as a tuple of rows, with 0 where a tie is free."""
    told = need_signs(web, signs, True)
    rows = [[0] * web.places for _ in range(web.places)]
    for (one, other), sign in zip(web.ties, told):
        rows[one][other] = sign
        rows[other][one] = sign
    return tuple([tuple(row) for row in rows])


def sign_poly(web, signs):
    """The poly of signs, none of them free."""
    told = need_signs(web, signs, False)
    if web.places > MOST_ROWS:
        raise TooMany("places", MOST_ROWS)
    return table_poly(table_of(web, told))


def turned_about(web, signs, place):
    """The signs with 1 and -1 exchanged at each tie of a place."""
    told = need_signs(web, signs, True)
    need_place(web, place)
    return tuple([-sign if place in tie else sign for tie, sign in zip(web.ties, told)])


def signs_without(web, signs, gone):
    """The signs of the ties that stay where some places go, in their order there."""
    told = need_signs(web, signs, True)
    staying = places_without(web, gone)
    # The places that stay keep their order, and so do the ties between them.
    return tuple([sign for (one, other), sign in zip(web.ties, told) if one in staying and other in staying])
