"""Which papers of even_lots are right."""

import itertools
import random
import unittest

from goodsigns.bounds import Bound
from goodsigns.check_lots import shows_even_lots
from goodsigns.errors import BadBound, BadNumber, BadVectors, TooMany
from goodsigns.lots import Lots, LotsTooGreat, even_lots, lots_poly
from goodsigns.papers import Denial, Paper
from goodsigns.polys import Poly
from goodsigns.reals import SomeAbove, within
from goodsigns.vectors import Vectors
from helpers import (Strange, beside, bounds_about, check_raises, check_same, drawn_vectors, no_integers, no_kind, numbers_of_dealings,
                     numbers_of_lot)

CROSS = Vectors([[1, 0], [0, 1], [1, 0], [0, 1]])
EIGHT = Vectors([[1, 0]] * 4 + [[0, 1]] * 4)
TWO, THREE = Bound(2, 0, 0), Bound(3, 0, 0)


def are_even(vectors, many, bound, dealt):
    """Whether the poly of each lot is within the bound; the polys are told by traces."""
    length = len(vectors.rows[0])
    lots = [[row for row, its in zip(vectors.rows, dealt) if its == lot] for lot in range(many)]
    return all([within(Poly(numbers_of_lot(rows, many, length)), bound) for rows in lots])


class LotsPapers(unittest.TestCase):
    def test_all_lots_of_drawn_vectors(self):
        draw = random.Random(161)
        told = {True: 0, False: 0}
        for _ in range(25):
            length, many = draw.randint(1, 3), draw.randint(2, 3)
            vectors = Vectors(drawn_vectors(draw, length, draw.randint(length, 5)))
            bound = draw.choice([Bound(vectors.total, 0, 0), Bound(vectors.total + vectors.longest, 0, 0), Bound(vectors.total * many - 1, 0, 0),
                                 bounds_about(lots_poly(vectors, many, [None] * len(vectors.rows)))[1]])
            dealings = list(itertools.product(range(many), repeat=len(vectors.rows)))
            for dealt in draw.sample(dealings, min(len(dealings), 30)):
                wanted = are_even(vectors, many, bound, dealt)
                told[wanted] += 1
                check_same(self, shows_even_lots(vectors, many, bound, Lots(draw.choice([list, tuple])(dealt))), wanted)
        self.assertGreater(min(told.values()), 60)

    def test_lots_within_a_bound_that_the_first_sum_is_not_within(self):
        # The first sum of cross is within 2 + root 2 at best, and lots with one of each two are within 2.
        self.assertFalse(even_lots(CROSS, 2, TWO, [0, 1, 2, 3]))
        for dealt in itertools.product((0, 1), repeat=4):
            wanted = dealt[0] != dealt[2] and dealt[1] != dealt[3]
            for bound in (TWO, beside(TWO, 2, 1), THREE, Bound(2, 1, 2), beside(Bound(4, 0, 0), 2, -1)):
                check_same(self, shows_even_lots(CROSS, 2, bound, Lots(dealt)), wanted)
            check_same(self, shows_even_lots(CROSS, 2, beside(TWO, 2, -1), Lots(dealt)), False)
            check_same(self, shows_even_lots(CROSS, 2, Bound(4, 0, 0), Lots(dealt)), True)
        for power in range(5):
            check_same(self, shows_even_lots(CROSS, 2, THREE, LotsTooGreat(power)), power == 1)

    def test_lots_that_are_bent(self):
        right = [0, 1, 1, 0]
        check_same(self, shows_even_lots(value=Lots(right), bound=THREE, many=2, vectors=CROSS), True)
        for at in range(4):
            for lot in no_integers() + [2, -1, 10 ** 70, float(right[at]), [right[at]], str(right[at])]:
                check_same(self, shows_even_lots(CROSS, 2, THREE, Lots(right[:at] + [lot] + right[at + 1:])), False)
                check_same(self, shows_even_lots(CROSS, 2, Bound(4, 0, 0), Lots(right[:at] + [lot] + right[at + 1:])), False)
            check_same(self, shows_even_lots(CROSS, 2, THREE, Lots(right[:at] + right[at + 1:])), False)
            check_same(self, shows_even_lots(CROSS, 2, THREE, Lots(right[:at] + [1 - right[at]] + right[at + 1:])), False)
        for dealt in no_integers() + [0, 1, right + [0], [right], "0110", dict(enumerate(right)), [None] * 4]:
            check_same(self, shows_even_lots(CROSS, 2, Bound(9, 0, 0), Lots(dealt)), False)
        # Of three lots each may be the number of one.
        check_same(self, shows_even_lots(CROSS, 3, Bound(9, 0, 0), Lots([2, 2, 2, 2])), True)
        check_same(self, shows_even_lots(CROSS, 3, THREE, Lots([2, 2, 1, 0])), True)
        check_same(self, shows_even_lots(CROSS, 3, THREE, Lots([2, 2, 2, 0])), False)

    def test_denials(self):
        draw = random.Random(162)
        told = {True: 0, False: 0}
        while min(told.values()) < 15:
            length, many = draw.randint(1, 3), draw.randint(2, 3)
            vectors = Vectors(drawn_vectors(draw, length, draw.randint(length, 5)))
            first = Poly(numbers_of_dealings(vectors.rows, many, [None] * len(vectors.rows)))
            for bound in (*bounds_about(first), Bound(0, 0, 0), Bound(-vectors.total, 0, 0), Bound(vectors.total, 0, 0)):
                found = within(first, bound)
                told[bool(found)] += 1
                for power in range(first.degree + 2):
                    wanted = not found and found.power == power
                    check_same(self, shows_even_lots(vectors, many, bound, LotsTooGreat(power)), wanted)
                check_same(self, shows_even_lots(vectors, many, bound, even_lots(vectors, many, bound, list(range(len(vectors.rows))))), True)
        for power in no_integers() + [0, 2, -1, 10 ** 70, [1], 1.0]:
            check_same(self, shows_even_lots(CROSS, 2, THREE, LotsTooGreat(power)), False)

    def test_other_values(self):
        for value in no_integers() + [0, 1, [0, 1, 1, 0], (0, 1, 1, 0), Paper("lots", [0, 1, 1, 0]), Denial("lotstoogreat", 1), SomeAbove(1), Lots,
                                      LotsTooGreat, Strange()]:
            for bound in (THREE, Bound(4, 0, 0)):
                check_same(self, shows_even_lots(CROSS, 2, bound, value), False)

    def test_wrong_arguments_in_their_order(self):
        values = (None, Lots([0] * 8), LotsTooGreat(0), Strange())
        for value in values:
            for vectors in no_kind(Vectors):
                check_raises(self, BadVectors("vectors"), shows_even_lots, vectors, None, None, value)
            for many in no_integers() + [0, 1, 4]:
                check_raises(self, BadNumber("many"), shows_even_lots, EIGHT, many, None, value)
            for bound in no_kind(Bound):
                check_raises(self, BadBound("bound"), shows_even_lots, EIGHT, 3, bound, value)
            check_raises(self, TooMany("vectors", 7), shows_even_lots, EIGHT, 3, Bound(-1, 0, 0), value)
        check_same(self, shows_even_lots(EIGHT, 2, Bound(4, 0, 0), Lots([0, 1] * 4)), True)
        check_same(self, shows_even_lots(EIGHT, 2, beside(Bound(4, 0, 0), 2, -1), Lots([0, 1] * 4)), False)

    def test_what_is_passed_stays(self):
        paper = Lots([0, 1, 1, 0])
        shows_even_lots(CROSS, 2, THREE, paper)
        self.assertEqual((paper.parts, CROSS.rows), (((0, 1, 1, 0),), ((1, 0), (0, 1), (1, 0), (0, 1))))


if __name__ == "__main__":
    unittest.main()
