"""Which papers of good_round are right."""

from goodsigns.papers import is_same_paper
from goodsigns.reals import told_within
from goodsigns.rounds import GoodRound, Round, RoundTooGreat, are_renamings, need_measures, rest_poly, told_mean_rest


def is_good(size, many, bound, renamings):
    """Whether a value is so many renamings of this size, the rest poly of their round being within the bound."""
    if not are_renamings(renamings) or len(renamings) != many or len(renamings[0]) != size:
        return False
    return bool(told_within(rest_poly(Round(renamings)), bound))


def shows_good_round(size, many, bound, value):
    """Whether a value is a right paper of good_round."""
    need_measures(size, many, bound)
    if type(value) is GoodRound:
        return is_good(size, many, bound, value.renamings)
    told = told_mean_rest(size, many, bound)
    return not told and is_same_paper(RoundTooGreat(told.power), value)
