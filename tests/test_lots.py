"""Vectors dealt into lots."""

import itertools
import random
import time
import unittest

from goodsigns.bounds import Bound
from goodsigns.check_lots import shows_even_lots
from goodsigns.errors import BadBound, BadLots, BadNumber, BadVectors, Misfit, TooMany
from goodsigns.lots import Lots, LotsTooGreat, even_lots, lot_poly, lots_bound, lots_poly, next_lot
from goodsigns.papers import Denial, Paper
from goodsigns.polys import Poly
from goodsigns.reals import within
from goodsigns.vectors import Vectors
from helpers import (beside, bounds_about, check_raises, check_same, drawn_vectors, no_integer_lists, no_integers, no_kind,
                     numbers_of_dealings, numbers_of_lot, product_numbers)

CROSS = Vectors([[1, 0], [0, 1], [1, 0], [0, 1]])
NINE = Vectors([[1, 0, 0], [0, 1, 0], [0, 0, 1]] * 3)
EIGHT = Vectors([[1, 0]] * 4 + [[0, 1]] * 4)
SEVEN = Vectors([[1, 2, 2], [2, 1, -2], [2, -2, 1], [0, 0, 0], [0, 3, 0], [0, 0, -3], [3, 0, 0]])
# The first sum of cross is 16 (x x - 4 x + 2)^2.
EDGE = Bound(2, 1, 2)


def drawn_dealt(draw, many, vectors, free):
    """A lot for each vector, None for a drawn share of them."""
    return draw.choice([list, tuple])([None if draw.random() < free else draw.randrange(many) for _ in range(vectors)])


def no_dealt(vectors, many):
    """Values that tell no lots of some vectors."""
    right = [0] * vectors
    wrong = [value for value in no_integers() if value is not None] + [many, -1, 10 ** 70]
    bent = [right[:at] + [value] + right[at + 1:] for at in (0, vectors - 1) for value in wrong]
    return no_integers() + [0, "0" * vectors, dict.fromkeys(range(vectors), 0), set(range(vectors)), iter(right), right[:-1], right + [0],
                            right + [None], [right]] + bent + [tuple(row) for row in bent]


def no_orders(vectors):
    """Values that are no order of so many vectors, five or more."""
    right = list(range(vectors))
    return no_integer_lists() + [right[:-1], right + [0], right + [vectors], right[:-1] + [vectors], right[:-1] + [right[0]], [-1] + right[1:],
                                 [right[-1]] + right[1:], [float(at) for at in right], right[:-1] + [True],
                                 [True if at == 1 else at for at in right]]


class Bounds(unittest.TestCase):
    def test_the_bound_of_the_facts(self):
        draw = random.Random(151)
        for length, many in itertools.product((1, 2, 3), (2, 3)):
            for rows in range(length, 8):
                vectors = Vectors(drawn_vectors(draw, length, rows))
                bound = lots_bound(vectors=vectors, many=many)
                longest = max([sum([number ** 2 for number in row]) for row in vectors.rows])
                self.assertEqual(bound, Bound(vectors.total + many * longest, 2, many * vectors.total * longest))
                if rows <= 6:
                    self.assertTrue(within(lots_poly(vectors, many, [None] * rows), bound))

    def test_wrong_arguments_in_their_order(self):
        for vectors in no_kind(Vectors):
            check_raises(self, BadVectors("vectors"), lots_bound, vectors, None)
        for many in no_integers() + [0, 1, 4, -2]:
            check_raises(self, BadNumber("many"), lots_bound, CROSS, many)


class LotPoly(unittest.TestCase):
    def test_drawn_dealings(self):
        draw = random.Random(152)
        for _ in range(150):
            length, many = draw.randint(1, 3), draw.randint(2, 3)
            rows = drawn_vectors(draw, length, draw.randint(length, 9))
            dealt = drawn_dealt(draw, many, len(rows), draw.choice([0, 0.3, 1]))
            for lot in range(many):
                wanted = numbers_of_lot([row for row, its in zip(rows, dealt) if its == lot], many, length)
                found = lot_poly(vectors=Vectors(rows), many=many, dealt=dealt, lot=lot)
                self.assertEqual((type(found), found.numbers), (Poly, wanted))

    def test_no_vector_and_all_vectors(self):
        for vectors, many in itertools.product((CROSS, NINE, SEVEN, Vectors([[1], [-2], [2]])), (2, 3)):
            length = len(vectors.rows[0])
            whole = Poly([1])
            for _ in range(length):
                whole = Poly([a - many * vectors.total * b for a, b in zip(whole.numbers + (0,), (0,) + whole.numbers)])
            for lot in range(many):
                dealt = [lot] * len(vectors.rows)
                self.assertEqual([lot_poly(vectors, many, dealt, each) == whole for each in range(many)], [each == lot for each in range(many)])
                for none in ([None] * len(dealt), [(lot + 1) % many] * len(dealt)):
                    self.assertEqual(lot_poly(vectors, many, none, lot).numbers, (1,) + (0,) * length)

    def test_wrong_arguments_in_their_order(self):
        for vectors in no_kind(Vectors):
            check_raises(self, BadVectors("vectors"), lot_poly, vectors, None, None, None)
        for many in no_integers() + [0, 1, 4, -2]:
            check_raises(self, BadNumber("many"), lot_poly, CROSS, many, None, None)
        for many in (2, 3):
            for dealt in no_dealt(4, many):
                check_raises(self, BadLots("dealt"), lot_poly, CROSS, many, dealt, None)
            for lot in no_integers() + [-1, many, 10 ** 70]:
                check_raises(self, BadNumber("lot"), lot_poly, CROSS, many, [0, None, 1, 1], lot)
        self.assertEqual(lot_poly(NINE, 3, [0, 1, 2] * 3, 2).numbers, (1, -9, 0, 0))


class SumOfDealings(unittest.TestCase):
    def test_drawn_dealings(self):
        draw = random.Random(153)
        for _ in range(60):
            length, many = draw.randint(1, 3), draw.randint(2, 3)
            rows = drawn_vectors(draw, length, draw.randint(length, 6 if many == 2 else 5))
            dealt = drawn_dealt(draw, many, len(rows), draw.choice([0, 0.3, 0.6, 1]))
            kept = list(dealt)
            found = lots_poly(vectors=Vectors(rows), many=many, dealt=dealt)
            self.assertEqual((type(found), found.numbers), (Poly, numbers_of_dealings(rows, many, dealt)))
            self.assertEqual(found.numbers[0], many ** kept.count(None))
            self.assertEqual(list(dealt), kept)

    def test_a_sum_is_that_of_the_next_ones(self):
        draw = random.Random(154)
        for vectors, many in ((SEVEN, 3), (NINE, 2), (EIGHT, 2)):
            for _ in range(3):
                dealt = list(drawn_dealt(draw, many, len(vectors.rows), 0.8))
                dealt[3] = None
                next_ones = [lots_poly(vectors, many, dealt[:3] + [lot] + dealt[4:]).numbers for lot in range(many)]
                self.assertEqual(lots_poly(vectors, many, dealt).numbers, tuple([sum(each) for each in zip(*next_ones)]))

    def test_seven_and_eight_vectors_and_nine(self):
        began = time.perf_counter()
        self.assertEqual(lots_poly(SEVEN, 3, [None] * 7).numbers[0], 3 ** 7)
        self.assertEqual(lots_poly(NINE, 2, [None] * 9).numbers[0], 2 ** 9)
        self.assertEqual(lots_poly(EIGHT, 2, [None] * 8).numbers[0], 2 ** 8)
        self.assertLess(time.perf_counter() - began, 5)
        for vectors in (EIGHT, NINE):
            for dealt in ([None] * len(vectors.rows), [0] * len(vectors.rows)):
                check_raises(self, TooMany("vectors", 7), lots_poly, vectors, 3, dealt)

    def test_wrong_arguments_in_their_order(self):
        for vectors in no_kind(Vectors):
            check_raises(self, BadVectors("vectors"), lots_poly, vectors, None, None)
        for many in no_integers() + [0, 1, 4, -2]:
            check_raises(self, BadNumber("many"), lots_poly, EIGHT, many, None)
        for many in (2, 3):
            for dealt in no_dealt(8, many):
                check_raises(self, BadLots("dealt"), lots_poly, EIGHT, many, dealt)


def sum_over_all_ways(vectors, many, dealt):
    """The products of the lot polys, added up over all ways to give each free vector a lot."""
    ways = itertools.product(*[range(many) if lot is None else (lot,) for lot in dealt])
    products = []
    for way in ways:
        found = (1,)
        for lot in range(many):
            found = product_numbers(found, lot_poly(vectors, many, way, lot).numbers)
        products.append(found)
    return tuple([sum(numbers) for numbers in zip(*products)])


class AllWays(unittest.TestCase):
    # Of 1, 2, 3 and 5 vectors; rows of zeros, rows that stand twice, and rows that are neither alike nor upright.
    ROWS = ([[3]], [[10 ** 64 + 7]], [[2], [2]], [[-5], [0]], [[1, 0], [0, 1]], [[3, 4], [4, -3]], [[1], [-2], [1]], [[0], [0], [7]],
            [[0, 2], [0, 0], [2, 0]], [[1, 2, 2], [2, 1, -2], [2, -2, 1]], [[2], [2], [0], [-1], [0]], [[1], [2], [3], [4], [5]],
            [[1, 0], [0, 1], [1, 0], [0, 1], [0, 0]], [[1, 1], [1, -1], [1, 0], [0, 1], [0, 0]], [[0, 0], [3, 4], [3, 4], [-4, 3], [-4, 3]],
            [[1, 2, 2], [2, 1, -2], [0, 0, 0], [2, -2, 1], [0, 0, 0]], [[1, 1, 1], [1, -1, -1], [0, 0, 0], [-1, 1, -1], [-1, -1, 1]])

    def check_sum(self, rows, many, dealt):
        """Check a sum of dealings against both sums over all ways."""
        vectors = Vectors(rows)
        found = lots_poly(vectors, many, dealt).numbers
        self.assertEqual(found, sum_over_all_ways(vectors, many, dealt))
        self.assertEqual(found, numbers_of_dealings(rows, many, dealt))
        self.assertEqual(found[0], many ** list(dealt).count(None))
        self.assertEqual(len(found), many * len(rows[0]) + 1)

    def test_every_dealing_of_few_vectors(self):
        for rows, many in itertools.product([rows for rows in self.ROWS if len(rows) <= 3], (2, 3)):
            for dealt in itertools.product([None, *range(many)], repeat=len(rows)):
                self.check_sum(rows, many, dealt)

    def test_five_vectors(self):
        draw = random.Random(157)
        for rows, many in itertools.product([rows for rows in self.ROWS if len(rows) == 5], (2, 3)):
            self.check_sum(rows, many, [None] * 5)
            for free in (0.8, 0.6, 0.4, 0.2, 0):
                self.check_sum(rows, many, drawn_dealt(draw, many, 5, free))

    def test_great_integers(self):
        draw = random.Random(158)
        for rows in self.ROWS:
            far = 10 ** 64 - draw.randint(1, 99)
            great = [[far * number for number in row] for row in rows]
            for many in (2, 3):
                self.check_sum(great, many, drawn_dealt(draw, many, len(rows), draw.choice([0.4, 0.8])))


class Times(unittest.TestCase):
    # Thousandths of a second that a call may take.
    EVEN_SEVEN, SUM_SEVEN, EVEN_NINE, SUM_NINE = 35 / 3, 14 / 3, 30 / 3, 15 / 3
    # A slow machine is let take longer.
    ROOM = 1.5

    def check_time(self, most, times, function, *told):
        """Check what a call takes, in the mean of so many; what else the machine does is not counted."""
        began = time.process_time()
        for _ in range(times):
            function(*told)
        self.assertLess(1000 * (time.process_time() - began), most * times)

    def test_the_most_vectors(self):
        seven, bound = Vectors([[1, 0, 0], [0, 1, 0], [0, 0, 1], [1, 0, 0], [0, 1, 0], [0, 0, 1], [0, 0, 0]]), Bound(9, 0, 0)
        self.check_time(self.ROOM * self.EVEN_SEVEN, 100, even_lots, seven, 3, bound, [0, 1, 2, 3, 4, 5, 6])
        self.check_time(self.ROOM * self.SUM_SEVEN, 100, lots_poly, seven, 3, [None] * 7)
        self.check_time(self.ROOM * self.EVEN_NINE, 100, even_lots, NINE, 2, bound, [0, 1, 2, 3, 4, 5, 6, 7, 8])
        self.check_time(self.ROOM * self.SUM_NINE, 100, lots_poly, NINE, 2, [None] * 9)

    def test_great_integers_in_unlike_rows(self):
        frame, far = [[1, 2, 2], [2, 1, -2], [2, -2, 1]], 10 ** 64 - 3
        seven = frame + [[1, 1, 1], [1, -1, -1], [-1, 1, -1], [-1, -1, 1]]
        nine = frame + [[2, 3, 6], [3, -6, 2], [6, 2, -3], [1, 4, 8], [4, 7, -4], [8, -4, 1]]
        for rows, many, even, sums in ((seven, 3, self.EVEN_SEVEN, self.SUM_SEVEN), (nine, 2, self.EVEN_NINE, self.SUM_NINE)):
            vectors = Vectors([[far * number for number in row] for row in rows])
            free, order, bound = [None] * len(rows), list(range(len(rows))), lots_bound(vectors, many)
            # Machines are less alike in how fast they multiply great integers.
            room = 2 * self.ROOM
            self.check_time(room * sums, 20, lots_poly, vectors, many, free)
            self.check_time(room * even, 20, even_lots, vectors, many, bound, order)
            self.check_time(room * even, 20, next_lot, vectors, many, free, 3, bound)
            self.check_time(room * sums, 20, shows_even_lots, vectors, many, Bound(0, 0, 0), LotsTooGreat(1))


class NextLot(unittest.TestCase):
    def check_next(self, vectors, many, dealt, number, bound):
        """Check the next lot of a free vector, and return it, None if the sum is not within the bound."""
        kept = list(dealt)
        if not within(lots_poly(vectors, many, dealt), bound):
            check_raises(self, Misfit("bound"), next_lot, vectors, many, dealt, number, bound)
            return None
        right = [lot for lot in range(many) if within(lots_poly(vectors, many, kept[:number] + [lot] + kept[number + 1:]), bound)]
        check_same(self, next_lot(vectors=vectors, many=many, dealt=dealt, number=number, bound=bound), right[0])
        self.assertEqual(list(dealt), kept)
        return right[0]

    def test_drawn_dealings(self):
        draw = random.Random(155)
        told = {0: 0, 1: 0, 2: 0, None: 0}
        while min(told.values()) < 6:
            length, many = draw.choice([1, 1, 2, 3]), draw.choice([2, 3, 3])
            rows = drawn_vectors(draw, length, draw.randint(length, 6 if many == 2 else 5))
            # If the last lot is left empty, the vector is often dealt into it.
            dealt = list(drawn_dealt(draw, draw.choice([many, many - 1]), len(rows), 0.2))
            number = draw.randrange(len(rows))
            dealt[number] = None
            vectors = Vectors(rows)
            below, above = bounds_about(lots_poly(vectors, many, dealt))
            for bound in (below, above, draw.choice([lots_bound(vectors, many), Bound(vectors.total * many, 0, 0)])):
                told[self.check_next(vectors, many, draw.choice([list, tuple])(dealt), number, bound)] += 1

    def test_bounds_at_above_and_below(self):
        for bound, wanted in ((EDGE, 0), (beside(EDGE, 2, 1), 0), (beside(EDGE, 2, -1), None)):
            self.assertEqual(self.check_next(CROSS, 2, [None] * 4, 0, bound), wanted)
        self.assertEqual([self.check_next(CROSS, 2, [0, 0, None, None], at, EDGE) for at in (2, 3)], [1, 1])
        # All in one lot have the root 4, the sum of their dealings being its poly times that of an empty one.
        four = Bound(4, 0, 0)
        self.assertEqual(self.check_next(CROSS, 2, [0, 0, 0, None], 3, four), 0)
        self.assertEqual(self.check_next(CROSS, 2, [0, 0, 0, None], 3, beside(four, 2, -1)), None)
        self.assertEqual(self.check_next(CROSS, 2, [0, None, 0, 1], 1, four), 0)
        # The sum is (x - 3) (3 x^2 - 18 x + 9); in lot 0 or 1 the vector leaves (x - 6) (x - 3) x, in lot 2 (x - 3)^3.
        for dealt, number, wanted in (([0, 1, None], 2, 2), ([1, None, 2], 1, 0), ([None, 0, 2], 0, 1)):
            for bound in (Bound(3, 1, 6), beside(Bound(3, 1, 6), 6, 1)):
                self.assertEqual(self.check_next(Vectors([[1]] * 3), 3, dealt, number, bound), wanted)
            self.assertEqual(self.check_next(Vectors([[1]] * 3), 3, dealt, number, Bound(6, 0, 6)), 0)

    def test_wrong_arguments_in_their_order(self):
        for vectors in no_kind(Vectors):
            check_raises(self, BadVectors("vectors"), next_lot, vectors, None, None, None, None)
        for many in no_integers() + [0, 1, 4]:
            check_raises(self, BadNumber("many"), next_lot, EIGHT, many, None, None, None)
        for dealt in no_dealt(8, 3):
            check_raises(self, BadLots("dealt"), next_lot, EIGHT, 3, dealt, None, None)
        dealt = [0] + [None] * 7
        for number in no_integers() + [-1, 8, 10 ** 70]:
            check_raises(self, BadNumber("number"), next_lot, EIGHT, 3, dealt, number, None)
        for bound in no_kind(Bound):
            check_raises(self, BadBound("bound"), next_lot, EIGHT, 3, dealt, 0, bound)
        check_raises(self, Misfit("number"), next_lot, EIGHT, 3, dealt, 0, Bound(-1, 0, 0))
        check_raises(self, TooMany("vectors", 7), next_lot, EIGHT, 3, dealt, 1, Bound(-1, 0, 0))
        check_raises(self, Misfit("number"), next_lot, EIGHT, 2, dealt, 0, Bound(-1, 0, 0))
        check_raises(self, Misfit("bound"), next_lot, EIGHT, 2, dealt, 1, Bound(-1, 0, 0))


class EvenLots(unittest.TestCase):
    def check_lots(self, vectors, many, bound, order):
        """Check what even_lots tells, and return it."""
        kept = list(order)
        found = even_lots(vectors, many, bound, order)
        dealt = [None] * len(vectors.rows)
        told = within(lots_poly(vectors, many, dealt), bound)
        if told:
            for number in order:
                dealt[number] = next_lot(vectors, many, tuple(dealt), number, bound)
            self.assertEqual(found, Lots(dealt))
            self.assertTrue(all([within(lot_poly(vectors, many, found.dealt, lot), bound) for lot in range(many)]))
        else:
            self.assertEqual(found, LotsTooGreat(told.power))
        self.assertEqual(even_lots(order=tuple(order), bound=bound, many=many, vectors=vectors), found)
        self.assertEqual(list(order), kept)
        return found

    def test_drawn_vectors(self):
        draw = random.Random(156)
        told = {True: 0, False: 0}
        while min(told.values()) < 40:
            length, many = draw.randint(1, 3), draw.randint(2, 3)
            vectors = Vectors(drawn_vectors(draw, length, draw.randint(length, 6 if many == 2 else 5)))
            below, above = bounds_about(lots_poly(vectors, many, [None] * len(vectors.rows)))
            order = draw.sample(range(len(vectors.rows)), len(vectors.rows))
            for bound in (below, above, Bound(vectors.total, 0, 0), lots_bound(vectors, many)):
                told[bool(self.check_lots(vectors, many, bound, order))] += 1

    def test_orders_of_every_kind(self):
        found = {order: self.check_lots(CROSS, 2, EDGE, order).dealt for order in itertools.permutations(range(4))}
        self.assertGreater(len(set(found.values())), 1)
        for dealt in found.values():
            self.assertNotEqual(dealt[0], dealt[2])
            self.assertNotEqual(dealt[1], dealt[3])

    def test_bounds_at_above_and_below(self):
        order = [0, 1, 2, 3]
        self.assertEqual([bool(self.check_lots(CROSS, 2, bound, order)) for bound in (EDGE, beside(EDGE, 2, 1), beside(EDGE, 2, -1))],
                         [True, True, False])
        self.assertEqual(even_lots(CROSS, 2, Bound(0, 0, 0), order), LotsTooGreat(3))
        # Of one vector alone the sum is 2 x (x - 2): there is no better lot than all of it.
        one = Vectors([[1]])
        self.assertEqual(self.check_lots(one, 2, Bound(2, 0, 0), [0]), Lots([0]))
        self.assertEqual(self.check_lots(one, 2, beside(Bound(2, 0, 0), 2, -1), [0]), LotsTooGreat(0))
        self.assertEqual([even_lots(one, 2, Bound(whole, 0, 0), (0,)).power for whole in (0, 1, -1)], [1, 0, 1])

    def test_seven_and_eight_vectors_and_nine(self):
        began = time.perf_counter()
        for vectors, many in ((SEVEN, 3), (NINE, 2), (EIGHT, 2)):
            rows = list(range(len(vectors.rows)))
            below, above = bounds_about(lots_poly(vectors, many, [None] * len(rows)))
            self.assertTrue(self.check_lots(vectors, many, lots_bound(vectors, many), rows))
            self.assertTrue(self.check_lots(vectors, many, above, rows))
            self.assertFalse(self.check_lots(vectors, many, below, rows[::-1]))
        self.assertLess(time.perf_counter() - began, 15)
        for vectors in (EIGHT, NINE):
            check_raises(self, TooMany("vectors", 7), even_lots, vectors, 3, Bound(-1, 0, 0), list(range(len(vectors.rows))))

    def test_long_integers(self):
        began = time.perf_counter()
        for rows, many in ((SEVEN.rows, 3), (NINE.rows, 2)):
            far = 10 ** 64 - 3
            vectors = Vectors([[far * number for number in row] for row in rows])
            for bound in (lots_bound(vectors, many), Bound(far, -far, far + 4), Bound(-far, far, far)):
                self.assertEqual(len(even_lots(vectors, many, bound, list(range(len(rows)))).parts), 1)
        self.assertLess(time.perf_counter() - began, 5)

    def test_wrong_arguments_in_their_order(self):
        for vectors in no_kind(Vectors):
            check_raises(self, BadVectors("vectors"), even_lots, vectors, None, None, None)
        for many in no_integers() + [0, 1, 4]:
            check_raises(self, BadNumber("many"), even_lots, EIGHT, many, None, None)
        for bound in no_kind(Bound):
            check_raises(self, BadBound("bound"), even_lots, EIGHT, 3, bound, None)
        for order in no_orders(8):
            check_raises(self, BadNumber("order"), even_lots, EIGHT, 3, Bound(-1, 0, 0), order)
        check_raises(self, TooMany("vectors", 7), even_lots, EIGHT, 3, Bound(-1, 0, 0), tuple(range(8)))

    def test_papers(self):
        paper, denial = Lots([0, [None]]), LotsTooGreat(power=[1])
        self.assertEqual((paper.word, paper.parts, paper.dealt), ("lots", ((0, (None,)),), (0, (None,))))
        self.assertEqual((denial.word, denial.parts, denial.power), ("lotstoogreat", ((1,),), (1,)))
        self.assertEqual((Lots.__bases__, LotsTooGreat.__bases__), ((Paper,), (Denial,)))
        self.assertEqual(Lots(dealt=(0, 1)), Lots([0, 1]))
        self.assertEqual((bool(paper), bool(denial)), (True, False))


if __name__ == "__main__":
    unittest.main()
