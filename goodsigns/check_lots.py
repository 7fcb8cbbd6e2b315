"""Which papers of even_lots are right."""

from goodsigns.bounds import need_bound
from goodsigns.dealings import spans_of
from goodsigns.lots import Lots, LotsTooGreat, all_free, are_lots, lot_poly, need_few_vectors, need_lots, told_sum
from goodsigns.papers import is_same_paper
from goodsigns.reals import told_within


def are_even(vectors, many, bound, dealt):
    """Whether a value has a lot for each vector, the poly of each lot being within the bound."""
    if not are_lots(vectors, many, dealt) or None in dealt:
        return False
    return all([bool(told_within(lot_poly(vectors, many, dealt, lot), bound)) for lot in range(many)])


def shows_even_lots(vectors, many, bound, value):
    """Whether a value is a right paper of even_lots, in whatever order."""
    need_lots(vectors, many)
    need_bound(bound, "bound")
    need_few_vectors(vectors, many)
    if type(value) is Lots:
        return are_even(vectors, many, bound, value.dealt)
    told = told_sum(spans_of(vectors.rows), many, all_free(vectors), bound)
    return not told and is_same_paper(LotsTooGreat(told.power), value)
