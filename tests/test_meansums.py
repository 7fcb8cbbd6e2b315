"""Sums in the mean and two-sided sums."""

import fractions
import itertools
import math
import random
import time
import unittest

from goodsigns.bounds import Bound
from goodsigns.errors import BadNumber, BadPoly, Misfit
from goodsigns.meansums import mean_sum, ones, two_sided_sum
from goodsigns.polys import Poly, derived, lessened, times
from goodsigns.reals import within
from helpers import check_raises, no_integers, no_kind, numbers_by_traces, product_numbers

BOTH = (mean_sum, two_sided_sum)


def in_lowest_terms(numbers):
    """Fractions, the first above 0, times the one fraction that makes them integers that nothing above 1 divides."""
    common = math.lcm(*[fractions.Fraction(number).denominator for number in numbers])
    whole = [int(number * common) for number in numbers]
    divisor = math.gcd(*whole)
    return tuple([number // divisor for number in whole])


def numbers_by_weights(one, other, power):
    """The numbers of a sum, just as the document tells them, with the weights to a power."""
    degree, f = len(one) - 1, math.factorial
    sums = [fractions.Fraction(0)] * (degree + 1)
    for i, j in itertools.product(range(degree + 1), repeat=2):
        if i + j <= degree:
            weight = fractions.Fraction(f(degree - i) * f(degree - j), f(degree) * f(degree - i - j))
            sums[i + j] += one[i] * other[j] * weight ** power
    return in_lowest_terms(sums)


def drawn_numbers(draw, degree, digits):
    """The numbers of a poly, some of them 0."""
    return [draw.randint(1, 10 ** digits)] + [draw.choice([0, 1, 1]) * draw.randint(-10 ** digits, 10 ** digits) for _ in range(degree)]


def signed_renamings(size):
    """All signed renamings."""
    return list(itertools.product(itertools.permutations(range(size)), itertools.product((1, -1), repeat=size)))


def drawn_table(draw, size):
    """A table of small integers."""
    rows = [[0] * size for _ in range(size)]
    for i, j in itertools.combinations_with_replacement(range(size), 2):
        rows[i][j] = rows[j][i] = draw.randint(-3, 3)
    return rows


def square_of(rows):
    """The table of the sums of products of the rows."""
    return [[sum([a * b for a, b in zip(one, other)]) for other in rows] for one in rows]


class Sums(unittest.TestCase):
    def check_both(self, one, other):
        """Check both sums of two rows of numbers, either one first."""
        for function, power in ((mean_sum, 1), (two_sided_sum, 2)):
            found = function(one=Poly(one), other=Poly(other))
            self.assertEqual((type(found), found.numbers), (Poly, numbers_by_weights(one, other, power)))
            self.assertEqual(function(Poly(other), Poly(one)), found)
            self.assertEqual(lessened(found), found)

    def test_drawn_polys(self):
        draw = random.Random(171)
        for degree, digits in itertools.product((0, 1, 2, 3, 5, 8, 13), (1, 2, 60)):
            for _ in range(5):
                one, other = drawn_numbers(draw, degree, digits), drawn_numbers(draw, degree, draw.choice([1, digits]))
                self.check_both(one, other)
                self.check_both([6 * number for number in one], [10 * number for number in other])
                self.check_both(one, one)

    def test_degree_0_and_1(self):
        for one, other in itertools.product((1, 2, 3, 12, 10 ** 64), repeat=2):
            for function in BOTH:
                self.assertEqual(function(Poly([one]), Poly([other])).numbers, (1,))
        # Of degree 1 both sums add the roots: weights are 1.
        for (a, b), (c, d) in itertools.product(((1, 0), (1, -2), (3, 4), (6, -9)), repeat=2):
            divisor = math.gcd(a * c, a * d + b * c)
            for function in BOTH:
                self.assertEqual(function(Poly([a, b]), Poly([c, d])).numbers, (a * c // divisor, (a * d + b * c) // divisor))

    def test_degree_63(self):
        draw = random.Random(172)
        began = time.perf_counter()
        far = Poly(drawn_numbers(draw, 63, 64))
        for function in BOTH:
            found = function(function(function(far, far), far), far)
            self.assertEqual(found.degree, 63)
        self.assertLess(time.perf_counter() - began, 5)
        self.check_both(drawn_numbers(draw, 63, 60), drawn_numbers(draw, 63, 60))
        self.check_both([1] + [0] * 63, [2] * 64)
        self.check_both(list(ones(63).numbers), list(ones(63).numbers))

    def test_the_order_of_polys_does_not_count(self):
        draw = random.Random(173)
        for degree in range(6):
            polys = [Poly(drawn_numbers(draw, degree, 2)) for _ in range(3)]
            for function in BOTH:
                found = {function(function(one, other), last).numbers for one, other, last in itertools.permutations(polys)}
                self.assertEqual(len(found), 1)
                power = Poly([1] + [0] * degree)
                self.assertEqual(function(polys[0], power), lessened(polys[0]))
                self.assertEqual(function(power, polys[1]), lessened(polys[1]))

    def test_derived_and_shifted(self):
        draw = random.Random(174)
        for degree in range(1, 7):
            one, other = Poly(drawn_numbers(draw, degree, 2)), Poly(drawn_numbers(draw, degree, 1))
            self.assertEqual(lessened(derived(mean_sum(one, other))), mean_sum(derived(one), derived(other)))
        # (x - s)^d and (x - t)^d have the sum (x - s - t)^d.
        for s, t, degree in itertools.product((-2, 0, 1, 5), (-1, 0, 3), (1, 2, 4)):
            power = [Poly([1]), Poly([1]), Poly([1])]
            for _ in range(degree):
                power = [times(each, Poly([1, -shift])) for each, shift in zip(power, (s, t, s + t))]
            self.assertEqual(mean_sum(power[0], power[1]), power[2])

    def test_means_over_signed_renamings(self):
        draw = random.Random(175)
        for size in (1, 2, 2, 3, 3):
            a, b = drawn_table(draw, size), drawn_table(draw, size)
            sums = [0] * (size + 1)
            for r, s in signed_renamings(size):
                table = [[a[i][j] + s[i] * s[j] * b[r[i]][r[j]] for j in range(size)] for i in range(size)]
                sums = [total + number for total, number in zip(sums, numbers_by_traces(table))]
            self.assertEqual(mean_sum(Poly(numbers_by_traces(a)), Poly(numbers_by_traces(b))).numbers, in_lowest_terms(sums))

    def test_means_over_pairs_of_signed_renamings(self):
        draw = random.Random(176)
        for size in (1, 2, 2, 2):
            a, b = [[[draw.randint(-3, 3) for _ in range(size)] for _ in range(size)] for _ in range(2)]
            sums = [0] * (size + 1)
            for (r, s), (q, t) in itertools.product(signed_renamings(size), repeat=2):
                rows = [[a[i][j] + s[i] * t[j] * b[r[i]][q[j]] for j in range(size)] for i in range(size)]
                sums = [total + number for total, number in zip(sums, numbers_by_traces(square_of(rows)))]
            one, other = Poly(numbers_by_traces(square_of(a))), Poly(numbers_by_traces(square_of(b)))
            self.assertEqual(two_sided_sum(one, other).numbers, in_lowest_terms(sums))

    def test_roots_add_up_at_most(self):
        draw = random.Random(177)
        for degree in (1, 2, 3, 5, 8):
            # The roots of both polys are squares.
            sides = [[draw.randint(0, 6) for _ in range(degree)] for _ in range(2)]
            polys = [Poly([1]), Poly([1])]
            for one, other in zip(*sides):
                polys = [times(poly, Poly([1, -side * side])) for poly, side in zip(polys, (one, other))]
            s, t = [max(side) for side in sides]
            self.assertTrue(within(mean_sum(*polys), Bound(s * s + t * t, 0, 0)))
            self.assertTrue(within(two_sided_sum(*polys), Bound((s + t) ** 2, 0, 0)))

    def test_wrong_arguments_in_their_order(self):
        for function in BOTH:
            for value in no_kind(Poly):
                check_raises(self, BadPoly("one"), function, value, value)
                check_raises(self, BadPoly("other"), function, Poly([1]), value)
            for one, other in itertools.product((0, 1, 2, 63), repeat=2):
                if one != other:
                    check_raises(self, Misfit("degree"), function, Poly([1] * (one + 1)), Poly([1] * (other + 1)))


class Ones(unittest.TestCase):
    def test_all_degrees(self):
        numbers = (1,)
        for degree in range(64):
            found = ones(degree=degree)
            self.assertEqual((type(found), found.numbers, found.degree), (Poly, numbers, degree))
            numbers = product_numbers(numbers, (1, -1))

    def test_wrong_degrees(self):
        for degree in no_integers() + [-1, 64, 10 ** 70]:
            check_raises(self, BadNumber("degree"), ones, degree)


if __name__ == "__main__":
    unittest.main()
