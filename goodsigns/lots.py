"""Vectors dealt into lots that add up nearly alike."""

from goodsigns.bounds import Bound, need_bound
from goodsigns.checks import are_integers, is_row, is_within, need_integer
from goodsigns.errors import BadLots, BadNumber, Misfit, TooMany
from goodsigns.papers import Denial, Paper
from goodsigns.polys import mixed, times
from goodsigns.reals import told_within
from goodsigns.rows import product_sum
from goodsigns.tables import table_poly
from goodsigns.vectors import columns_of, need_vectors

FEWEST_LOTS = 2
MOST_LOTS = 3
# For three lots: there are too many ways to deal more vectors.
MOST_IN_THREE = 7


class Lots(Paper):
    """For each vector the number of its lot, the poly of each lot being within the bound."""

    def __init__(self, dealt):
        Paper.__init__(self, "lots", dealt)
        self.dealt = self.parts[0]


class LotsTooGreat(Denial):
    """The first sum is not within the bound: shifted, its number of this power is below 0."""

    def __init__(self, power):
        Denial.__init__(self, "lotstoogreat", power)
        self.power = self.parts[0]


def need_lots(vectors, many):
    """Require Vectors, and a number of lots."""
    need_vectors(vectors, "vectors")
    need_integer(many, "many", FEWEST_LOTS, MOST_LOTS)


def are_lots(vectors, many, value):
    """Whether a value is a list that has, for each vector, the number of a lot or None."""
    if not is_row(value) or len(value) != len(vectors.rows):
        return False
    return all([lot is None or is_within(lot, 0, many - 1) for lot in value])


def need_dealt(vectors, many, dealt):
    """The lots of the vectors, as a tuple."""
    need_lots(vectors, many)
    if not are_lots(vectors, many, dealt):
        raise BadLots("dealt")
    return tuple(dealt)


def need_few_vectors(vectors, many):
    """Require that there are not too many ways to deal the vectors."""
    if many == MOST_LOTS and len(vectors.rows) > MOST_IN_THREE:
        raise TooMany("vectors", MOST_IN_THREE)


def lots_bound(vectors, many):
    """A bound that the first sum is within."""
    need_lots(vectors, many)
    longest = many * vectors.longest
    return Bound(vectors.total + longest, 2, longest * vectors.total)


def poly_of_rows(vectors, many, rows):
    """The lot poly of a lot that has just these rows."""
    columns = columns_of(rows, len(vectors.rows[0]))
    return table_poly([[many * product_sum(one, other) for other in columns] for one in columns])


def lot_poly(vectors, many, dealt, lot):
    """The poly of a lot; free vectors are in none."""
    told = need_dealt(vectors, many, dealt)
    need_integer(lot, "lot", 0, many - 1)
    return poly_of_rows(vectors, many, [row for row, its in zip(vectors.rows, told) if its == lot])


def polys_with_free(vectors, many, dealt, lot):
    """The polys of a lot with some of the free vectors put in: those at the bits of the index."""
    mine = [row for row, its in zip(vectors.rows, dealt) if its == lot]
    free = [row for row, its in zip(vectors.rows, dealt) if its is None]
    found = []
    for mask in range(1 << len(free)):
        more = [row for at, row in enumerate(free) if mask >> at & 1]
        found.append(poly_of_rows(vectors, many, mine + more))
    return found


def shared_out(one, other, mask):
    """The sum, over all ways to share out the bits of a mask, of the products of a poly of one and one of the other."""
    found = times(one[mask], other[0])
    part = mask
    while part > 0:
        # The next lower integer that has no other bits.
        part = (part - 1) & mask
        found = mixed(found, times(one[part], other[mask - part]), 1, 1)
    return found


def sum_of_dealings(vectors, many, dealt):
    """The sum of dealings, of vectors that are not too many."""
    sums = polys_with_free(vectors, many, dealt, 0)
    for lot in range(1, many - 1):
        polys = polys_with_free(vectors, many, dealt, lot)
        sums = [shared_out(sums, polys, mask) for mask in range(len(sums))]
    return shared_out(sums, polys_with_free(vectors, many, dealt, many - 1), len(sums) - 1)


def lots_poly(vectors, many, dealt):
    """The sum of dealings from dealt."""
    told = need_dealt(vectors, many, dealt)
    need_few_vectors(vectors, many)
    return sum_of_dealings(vectors, many, told)


def is_sum_within(vectors, many, dealt, bound):
    """Whether the sum of dealings is within a bound."""
    return bool(told_within(sum_of_dealings(vectors, many, dealt), bound))


def with_lot(dealt, number, lot):
    """The lots with another one for a vector."""
    return dealt[:number] + (lot,) + dealt[number + 1:]


def next_lot(vectors, many, dealt, number, bound):
    """The least lot by which, a vector being dealt into it, the sum of dealings is within the bound."""
    told = need_dealt(vectors, many, dealt)
    need_integer(number, "number", 0, len(told) - 1)
    need_bound(bound, "bound")
    if told[number] is not None:
        raise Misfit("number")
    need_few_vectors(vectors, many)
    if not is_sum_within(vectors, many, told, bound):
        raise Misfit("bound")
    return least_lot(vectors, many, told, number, bound)


def least_lot(vectors, many, dealt, number, bound):
    """What next_lot tells, where the sum of dealings is within the bound."""
    for lot in range(many - 1):
        if is_sum_within(vectors, many, with_lot(dealt, number, lot), bound):
            return lot
    # One of the lots leaves the sum within the bound.
    return many - 1


def told_first_sum(vectors, many, bound):
    """What within tells of the first sum."""
    return told_within(sum_of_dealings(vectors, many, (None,) * len(vectors.rows)), bound)


def need_order(vectors, order):
    """Require a list that has the number of each vector once."""
    if not are_integers(order) or sorted(order) != list(range(len(vectors.rows))):
        raise BadNumber("order")


def even_lots(vectors, many, bound, order):
    """The lots of vectors that are dealt in an order, each by next_lot, if the first sum is within the bound."""
    need_lots(vectors, many)
    need_bound(bound, "bound")
    need_order(vectors, order)
    need_few_vectors(vectors, many)
    told = told_first_sum(vectors, many, bound)
    if not told:
        return LotsTooGreat(told.power)
    dealt = (None,) * len(vectors.rows)
    for number in order:
        dealt = with_lot(dealt, number, least_lot(vectors, many, dealt, number, bound))
    return Lots(dealt)
