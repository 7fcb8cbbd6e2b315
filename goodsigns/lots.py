"""Vectors dealt into lots that add up nearly alike."""

from goodsigns.bounds import Bound, need_bound
from goodsigns.checks import are_integers, is_row, is_within, need_integer
from goodsigns.dealings import spans_of, sum_of_dealings
from goodsigns.errors import BadLots, BadNumber, Misfit, TooMany
from goodsigns.papers import Denial, Paper
from goodsigns.reals import told_within
from goodsigns.rows import product_sum
from goodsigns.tables import table_poly
from goodsigns.vectors import columns_of, need_vectors

FEWEST_LOTS = 2
MOST_LOTS = 3
# For three lots: there are too many ways to deal more vectors.
MOST_IN_THREE = 7


class Lots(Paper):
    """For each vector the number of its lot, the poly of each lot being within the bound."""

    def __init__(self, dealt):
        Paper.__init__(self, "lots", dealt)
        self.dealt = self.parts[0]


class LotsTooGreat(Denial):
    """The first sum is not within the bound: shifted, its number of this power is below 0."""

    def __init__(self, power):
        Denial.__init__(self, "lotstoogreat", power)
        self.power = self.parts[0]


def need_lots(vectors, many):
    """Require Vectors, and a number of lots."""
    need_vectors(vectors, "vectors")
    need_integer(many, "many", FEWEST_LOTS, MOST_LOTS)


def are_lots(vectors, many, value):
    """Whether a value is a list that has, for each vector, the number of a lot or None."""
    if not is_row(value) or len(value) != len(vectors.rows):
        return False
    return all([lot is None or is_within(lot, 0, many - 1) for lot in value])


def need_dealt(vectors, many, dealt):
    """The lots of the vectors, as a tuple."""
    need_lots(vectors, many)
    if not are_lots(vectors, many, dealt):
        raise BadLots("dealt")
    return tuple(dealt)


def need_few_vectors(vectors, many):
    """Require that there are not too many ways to deal the vectors."""
    if many == MOST_LOTS and len(vectors.rows) > MOST_IN_THREE:
        raise TooMany("vectors", MOST_IN_THREE)


def lots_bound(vectors, many):
    """A bound that the first sum is within."""
    need_lots(vectors, many)
    longest = many * vectors.longest
    return Bound(vectors.total + longest, 2, longest * vectors.total)


def poly_of_rows(vectors, many, rows):
    """The lot poly of a lot that has just these rows."""
    columns = columns_of(rows, len(vectors.rows[0]))
    return table_poly([[many * product_sum(one, other) for other in columns] for one in columns])


def lot_poly(vectors, many, dealt, lot):
    """The poly of a lot; free vectors are in none."""
    told = need_dealt(vectors, many, dealt)
    need_integer(lot, "lot", 0, many - 1)
    return poly_of_rows(vectors, many, [row for row, its in zip(vectors.rows, told) if its == lot])


def lots_poly(vectors, many, dealt):
    """The sum of dealings from dealt."""
    told = need_dealt(vectors, many, dealt)
    need_few_vectors(vectors, many)
    return sum_of_dealings(spans_of(vectors.rows), many, told)


def told_sum(spans, many, dealt, bound):
    """What within tells of the sum of dealings, of the vectors that have these spans."""
    return told_within(sum_of_dealings(spans, many, dealt), bound)


def with_lot(dealt, number, lot):
    """The lots with another one for a vector."""
    return dealt[:number] + (lot,) + dealt[number + 1:]


def next_lot(vectors, many, dealt, number, bound):
    """The least lot by which, a vector being dealt into it, the sum of dealings is within the bound."""
    told = need_dealt(vectors, many, dealt)
    need_integer(number, "number", 0, len(told) - 1)
    need_bound(bound, "bound")
    if told[number] is not None:
        raise Misfit("number")
    need_few_vectors(vectors, many)
    spans = spans_of(vectors.rows)
    if not told_sum(spans, many, told, bound):
        raise Misfit("bound")
    return least_lot(spans, many, told, number, bound)


def least_lot(spans, many, dealt, number, bound):
    """What next_lot tells, where the sum of dealings is within the bound."""
    for lot in range(many - 1):
        if told_sum(spans, many, with_lot(dealt, number, lot), bound):
            return lot
    # One of the lots leaves the sum within the bound.
    return many - 1


def all_free(vectors):
    """The lots of vectors that are all free."""
    return (None,) * len(vectors.rows)


def need_order(vectors, order):
    """Require a list that has the number of each vector once."""
    if not are_integers(order) or sorted(order) != list(range(len(vectors.rows))):
        raise BadNumber("order")


def even_lots(vectors, many, bound, order):
    """The lots of vectors that are dealt in an order, each by next_lot, if the first sum is within the bound."""
    need_lots(vectors, many)
    need_bound(bound, "bound")
    need_order(vectors, order)
    need_few_vectors(vectors, many)
    spans = spans_of(vectors.rows)
    dealt = all_free(vectors)
    told = told_sum(spans, many, dealt, bound)
    if not told:
        return LotsTooGreat(told.power)
    for number in order:
        dealt = with_lot(dealt, number, least_lot(spans, many, dealt, number, bound))
    return Lots(dealt)
