"""Signs that are chosen so that no root is above a bound."""

from goodsigns.bounds import Bound, need_bound
from goodsigns.checks import need_integers, need_unlike
from goodsigns.errors import Misfit, NoTie, TooMany
from goodsigns.frames import beyond_frame, first_signs, labels_of, merged
from goodsigns.means import mean_of, need_few_rings
from goodsigns.papers import Denial, Paper
from goodsigns.reals import told_within
from goodsigns.signs import need_signs, sign_poly
from goodsigns.webs import need_tie, need_web

MOST_CLASS_PLACES = 12
MOST_CLASSES = 256


class GoodSigns(Paper):
    """Signs whose poly is within the bound."""

    def __init__(self, signs):
        Paper.__init__(self, "goodsigns", signs)
        self.signs = self.parts[0]


class TooGreat(Denial):
    """The pairing poly is not within the bound: shifted, its number of this power is below 0."""

    def __init__(self, power):
        Denial.__init__(self, "toogreat", power)
        self.power = self.parts[0]


class NoSigns(Denial):
    """No signs are within the bound: for each class the power whose number is below 0."""

    def __init__(self, powers):
        Denial.__init__(self, "nosigns", powers)
        self.powers = self.parts[0]


def degree_bound(web):
    """The bound 2 root (most - 1), most being the greatest number of neighbours."""
    need_web(web, "web")
    if web.most < 2:
        raise Misfit("ties")
    return Bound(0, 2, web.most - 1)


def is_mean_within(web, signs, bound):
    """Whether the mean of signs is within a bound, in a web that has few rings."""
    return bool(told_within(mean_of(web, signs), bound))


def with_sign(signs, tie, sign):
    """The signs with another one at a tie."""
    return signs[:tie] + (sign,) + signs[tie + 1:]


def next_sign(web, signs, tie, bound):
    """1 if the next mean with 1 at a free tie is within the bound, otherwise -1."""
    told = need_signs(web, signs, True)
    if told[need_tie(web, tie)] != 0:
        raise NoTie(tie)
    need_bound(bound, "bound")
    need_few_rings(web)
    if not is_mean_within(web, told, bound):
        raise Misfit("bound")
    return 1 if is_mean_within(web, with_sign(told, tie, 1), bound) else -1


def need_order(web, order):
    """Require a list that has the number of each tie once."""
    need_integers(order, "order")
    for tie in order:
        need_tie(web, tie)
    need_unlike(order)
    if len(order) < len(web.ties):
        raise Misfit("order")


def good_signs(web, bound, order):
    """Signs within the bound, told tie by tie in an order, if the pairing poly is within it."""
    need_web(web, "web")
    need_bound(bound, "bound")
    need_order(web, order)
    need_few_rings(web)
    told = told_pairings(web, bound)
    return GoodSigns(signs_in_order(web, bound, order)) if told else TooGreat(told.power)


def told_pairings(web, bound):
    """What within tells of the pairing poly, of a web that has few rings."""
    return told_within(mean_of(web, (0,) * len(web.ties)), bound)


def signs_in_order(web, bound, order):
    """The signs that are told in an order, each by next_sign, where the pairing poly is within the bound."""
    signs = (0,) * len(web.ties)
    labels = labels_of(web)
    for tie in order:
        one, other = web.ties[tie]
        signs = with_sign(signs, tie, 1)
        # A tie between two pieces of set ties leaves the mean as it was, which is within the bound.
        if labels[one] == labels[other] and not is_mean_within(web, signs, bound):
            signs = with_sign(signs, tie, -1)
        labels = merged(labels, one, other)
    return signs


def need_few_classes(web):
    """Require a web with few places and few classes of signs."""
    if web.places > MOST_CLASS_PLACES:
        raise TooMany("places", MOST_CLASS_PLACES)
    if 1 << len(beyond_frame(web)) > MOST_CLASSES:
        raise TooMany("classes", MOST_CLASSES)


def any_signs(web, bound):
    """The first signs of the first class that is within the bound."""
    need_web(web, "web")
    need_bound(bound, "bound")
    need_few_classes(web)
    powers = []
    for signs in first_signs(web):
        told = told_within(sign_poly(web, signs), bound)
        if told:
            return GoodSigns(signs)
        powers.append(told.power)
    return NoSigns(powers)
