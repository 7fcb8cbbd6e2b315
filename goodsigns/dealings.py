"""Sums of dealings, added up over sets of vectors instead of over all ways to deal.

The span of a set of vectors is the determinant of the table of their products
with one another. The poly of a lot has, k powers below the highest, the sum of
the spans of all sets of k of its vectors, times -many for each of the k. So in
the product of the polys of all lots each lot brings in a set, and a free vector
is in one of these sets at most. They stand in all dealings that give its lot to
each free vector that is in a set: that is many for each free vector that is in
none. Instead, the whole is multiplied by many for each free vector, and each one
that is in a set counts -1; one that is dealt counts -many.

A set of vectors is told by its bits: the vector i by 2^i.
"""

from goodsigns.polys import Poly
from goodsigns.vectors import LONGEST_ROW


def planes_of(lines):
    """Each two of some rows that are not on one line, with a row whose sum of squares is their span."""
    # A set grows by vectors behind its own ones alone, so that each is told once.
    found = [
        (bits | bit, (b * f - c * e, c * d - a * f, a * e - b * d))
        for bits, (a, b, c) in lines
        for bit, (d, e, f) in lines
        if bits < bit
    ]
    return [(bits, row) for bits, row in found if any(row)]


def bodies_of(planes, lines):
    """Each three of some rows that are not in one plane, with a number whose square is their span."""
    found = [
        (bits | bit, a * d + b * e + c * f)
        for bits, (a, b, c) in planes
        for bit, (d, e, f) in lines
        if bits < bit
    ]
    return [(bits, number) for bits, number in found if number != 0]


def spans_of(rows):
    """For each size, up to the length of the rows, pairs: each set whose span is not 0, and the span."""
    length = len(rows[0])
    zeros = (0,) * (LONGEST_ROW - length)
    lines = [(1 << at, tuple(row) + zeros) for at, row in enumerate(rows) if any(row)]
    planes = planes_of(lines)
    spans = [[(bits, a * a + b * b + c * c) for bits, (a, b, c) in told] for told in (lines, planes)]
    bodies = [(bits, number * number) for bits, number in bodies_of(planes, lines)]
    return [[(0, 1)], *spans, bodies][:length + 1]


def bits_of(dealt, lot):
    """The set of the vectors that are dealt into a lot, or are free for None."""
    return sum([1 << at for at, its in enumerate(dealt) if its == lot])


def weights_of(dealt, many):
    """For each set of vectors, by its bits, what its vectors count, multiplied."""
    weights = [1]
    for lot in dealt:
        factor = -1 if lot is None else -many
        weights = weights + [factor * weight for weight in weights]
    return weights


def share_of(told, weights, free, others):
    """What the sets of one size count that a lot can bring in, added up by the free vectors in them."""
    found = {}
    for bits, span in told:
        if bits & others == 0:
            key = bits & free
            found[key] = found.get(key, 0) + weights[bits] * span
    return found


def shares_of(spans, many, dealt):
    """For each lot and each size what the lot can bring in, by the free vectors in it."""
    weights = weights_of(dealt, many)
    free = bits_of(dealt, None)
    mine = [bits_of(dealt, lot) for lot in range(many)]
    return [[share_of(told, weights, free, sum(mine) - bits) for told in spans] for bits in mine]


def add_products(found, one, other):
    """Add the products of each two that share no free vector, by the free vectors of both."""
    for bits, number in one.items():
        for more, factor in other.items():
            if bits & more == 0:
                found[bits + more] = found.get(bits + more, 0) + number * factor


def joined(one, other):
    """By sizes, what two lots can bring in together."""
    found = [{} for _ in range(len(one) + len(other) - 1)]
    for i, mine in enumerate(one):
        for j, its in enumerate(other):
            add_products(found[i + j], mine, its)
    return found


def rest_beside(bits, told):
    """The sum of what shares no free vector with a set."""
    return sum([number for more, number in told.items() if bits & more == 0])


def joined_sums(one, other):
    """By sizes, the sum of all that two lots can bring in together."""
    sums = [0] * (len(one) + len(other) - 1)
    for i, mine in enumerate(one):
        for j, its in enumerate(other):
            sums[i + j] += sum([number * rest_beside(bits, its) for bits, number in mine.items()])
    return sums


def sum_of_dealings(spans, many, dealt):
    """The sum of dealings, of the vectors that have these spans."""
    shares = shares_of(spans, many, dealt)
    ahead = shares[0]
    for share in shares[1:-1]:
        ahead = joined(ahead, share)
    numbers = joined_sums(ahead, shares[-1])
    for lot in dealt:
        if lot is None:
            numbers = [many * number for number in numbers]
    return Poly(numbers)
