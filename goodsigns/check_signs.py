"""Which papers of good_signs and any_signs are right."""

from goodsigns.bounds import need_bound
from goodsigns.choices import GoodSigns, TooGreat, any_signs, need_few_classes, told_pairings
from goodsigns.means import need_few_rings
from goodsigns.papers import is_same_paper
from goodsigns.reals import told_within
from goodsigns.signs import are_signs, sign_poly
from goodsigns.webs import need_web


def are_within(web, bound, signs):
    """Whether a value is signs of a web, none of them free, whose poly is within the bound."""
    return are_signs(web, signs, False) and bool(told_within(sign_poly(web, signs), bound))


def shows_good_signs(web, bound, value):
    """Whether a value is a right paper of good_signs, in whatever order."""
    need_web(web, "web")
    need_bound(bound, "bound")
    need_few_rings(web)
    if type(value) is GoodSigns:
        return are_within(web, bound, value.signs)
    told = told_pairings(web, bound)
    return not told and is_same_paper(TooGreat(told.power), value)


def shows_any_signs(web, bound, value):
    """Whether a value is a right paper of any_signs."""
    need_web(web, "web")
    need_bound(bound, "bound")
    need_few_classes(web)
    if type(value) is GoodSigns:
        return are_within(web, bound, value.signs)
    return is_same_paper(any_signs(web, bound), value)
