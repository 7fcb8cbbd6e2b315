"""Power tables, real roots, bounds of roots."""

import itertools
import random
import unittest
from fractions import Fraction

from goodsigns.bounds import Bound, sign_of
from goodsigns.errors import BadBound, BadPoly, Impossible, TooMany
from goodsigns.polys import Poly, derived, times
from goodsigns.quotients import exact_quotients, odd_inverse
from goodsigns.reals import (AllReal, NoneAbove, NotReal, SomeAbove, all_real, power_table, shows_all_real, shows_within,
                             within)
from goodsigns.shifts import shifted
from helpers import Strange, check_raises, check_same, no_integer_lists, no_integers, no_kind, raised

LONG = 10 ** 65 - 1


def product(rows):
    """The product of polys that are told by their numbers."""
    found = Poly([1])
    for row in rows:
        found = times(found, Poly(row))
    return found


def with_roots(roots):
    """The poly with these integers as its roots."""
    return product([[1, -root] for root in roots])


def table_by_matrix(poly):
    """The power table, by the powers of the companion matrix."""
    degree, first = poly.degree, poly.numbers[0]
    step = [[Fraction(int(i == j + 1)) for j in range(degree)] for i in range(degree)]
    for i in range(degree):
        step[i][degree - 1] = Fraction(-poly.numbers[degree - i], first)
    power = [[Fraction(int(i == j)) for j in range(degree)] for i in range(degree)]
    sums = []
    for k in range(2 * degree):
        sums.append(sum([power[i][i] for i in range(degree)]) * first ** k)
        power = [[sum([row[k] * step[k][j] for k in range(degree)]) for j in range(degree)] for row in power]
    return tuple([tuple([sums[i + j] for j in range(degree)]) for i in range(degree)])


def nowhere_below(table):
    """Whether the form of a table is nowhere below 0, by clearing it row by row."""
    rows = [[Fraction(number) for number in row] for row in table]
    for i, row in enumerate(rows):
        if row[i] < 0 or (row[i] == 0 and any(row[i:])):
            return False
        for j in range(i + 1, len(rows)):
            share = rows[j][i] / row[i] if row[i] else 0
            rows[j] = [mine - share * its for mine, its in zip(rows[j], row)]
    return True


def form(table, row):
    """The form of a table at a row."""
    return sum([mine * its * number for mine, line in zip(row, table) for its, number in zip(row, line)])


class Quotients(unittest.TestCase):
    def test_quotients_of_every_size(self):
        draw = random.Random(8)
        for bits in (1, 2, 3, 8, 30, 200, 5000):
            for _ in range(20):
                divisor = draw.randint(1, 1 << bits) << draw.choice([0, 1, 40])
                wanted = [draw.randint(-1 << size, 1 << size) for size in (0, 1, bits, 3 * bits)]
                self.assertEqual(exact_quotients([each * divisor for each in wanted], divisor), wanted)
        self.assertEqual(exact_quotients([0, 0], 12), [0, 0])

    def test_odd_inverse(self):
        for number, bits in itertools.product((1, 3, 5, 7, 9, 255, 10 ** 40 + 1), (1, 2, 3, 4, 17, 100)):
            self.assertEqual(odd_inverse(number, bits) * number % 2 ** bits, 1)


class PowerTables(unittest.TestCase):
    def test_against_a_matrix(self):
        draw = random.Random(9)
        for degree in (0, 1, 2, 3, 4, 5, 6):
            for _ in range(15):
                size = draw.choice([1, 4, 10 ** 30])
                poly = Poly([draw.randint(1, size)] + [draw.randint(-size, size) for _ in range(degree)])
                found = power_table(poly=poly)
                self.assertEqual(found, table_by_matrix(poly))
                self.assertTrue(all([type(row) is tuple for row in (found,) + found]))

    def test_of_known_roots(self):
        roots = [3, 3, -1, 0, 7]
        table = power_table(with_roots(roots))
        for i, j in itertools.product(range(5), range(5)):
            self.assertEqual(table[i][j], sum([root ** (i + j) for root in roots]))
        self.assertEqual(power_table(Poly([7])), ())
        self.assertEqual(power_table(Poly([2, 3])), ((1,),))
        self.assertEqual(power_table(Poly([1] + [0] * 24))[0], tuple([24] + [0] * 23))


class AllRoots(unittest.TestCase):
    def check_not_real(self, poly):
        paper = all_real(poly)
        self.assertIs(type(paper), NotReal, msg=str(poly)[:300])
        self.assertEqual(len(paper.row), poly.degree)
        self.assertTrue(all([type(number) is int for number in paper.row]))
        self.assertLess(form(power_table(poly), paper.row), 0)
        check_same(self, shows_all_real(poly, paper), True)
        check_same(self, shows_all_real(poly, AllReal()), False)
        self.assertEqual(all_real(Poly(list(poly.numbers))), paper)
        return paper

    def check_real(self, poly):
        self.assertEqual(all_real(poly), AllReal(), msg=str(poly)[:300])
        check_same(self, shows_all_real(poly, AllReal()), True)

    def test_products_of_real_roots(self):
        draw = random.Random(10)
        for degree in (0, 1, 2, 3, 7, 12, 24):
            for most in (0, 1, 3, 10 ** 5):
                self.check_real(product([[draw.randint(1, 3), draw.randint(-most, most)] for _ in range(degree)]))
        # Roots that are no integers, alone and twice.
        self.check_real(product([[1, 0, -2], [1, 0, -2], [1, 0, -3], [1, -4, 2]]))
        self.check_real(Poly([1, -9, 18, -6]))
        self.check_real(Poly([1, 0, -9, 0, 18, 0, -6]))

    def test_one_pair_that_is_not_real(self):
        draw = random.Random(11)
        for degree in (0, 1, 2, 5, 10, 22):
            for pair in ([1, 0, 1], [1, 1, 1], [3, -2, 5], [1, -20, 101]):
                self.check_not_real(product([pair] + [[1, draw.randint(-4, 4)] for _ in range(degree)]))

    def test_pairs_told_twice_and_gaps(self):
        for numbers in ([1, 0, 2, 0, 1], [1, 0, 0, 1], [1, 0, 0, -1], [1, 0, 0, 0, 1], [1, 0, 0, 0, -1], [1, 0, 0, 0, -1, 0],
                        [1] + [0] * 23 + [1], [5] + [0] * 23 + [-7], [1, 0, 1] + [0] * 22, [1, 0, 0, 1] + [0] * 21,
                        [1, 1] + [0] * 22 + [1], [1, -4, 6, -4, 0], [2, 0, 0, 0, 0, 3, 0], [1, 0, -2, 0, 0, 0, 1]):
            self.check_not_real(Poly(numbers))
        self.check_not_real(times(product([[1, 0, 1]] * 6), product([[1, -3]] * 6)))

    def test_near_to_real(self):
        for shift in (1, 10 ** 20):
            self.check_real(Poly([1, 0, 0, 0]))
            self.check_not_real(product([[shift, 0, 1], [1, -1], [1, 1]]))
            # (x - s)^2 + or - a little.
            self.check_real(Poly([shift * shift, -2 * shift, 1]))
            self.check_not_real(Poly([shift * shift, -2 * shift, 2]))
            self.check_real(Poly([shift * shift, -2 * shift - 1, 1]))

    def test_all_polys_with_small_numbers(self):
        for degree in (1, 2, 3, 4):
            for rest in itertools.product((-2, -1, 0, 1, 3), repeat=degree):
                poly = Poly((1 + (sum(rest) % 2),) + rest)
                if nowhere_below(table_by_matrix(poly)):
                    self.check_real(poly)
                else:
                    self.check_not_real(poly)

    def test_rows_are_not_too_long(self):
        most = 10 ** 12 - 1
        draw = random.Random(12)
        polys = [Poly([most] + [draw.choice([-most, most]) for _ in range(24)]) for _ in range(10)]
        polys += [Poly([most] + [0] * k + [1] + [0] * (22 - k) + [most]) for k in range(23)]
        # All real but for the very last number: the chain breaks late.
        late = list(product([[1, 0, -k] for k in (1, 2, 3, 4, 5, 6, 7, 8, 9, 10, 11)]).numbers)
        polys += [Poly([1000 * number for number in late] + [0, -1]), Poly(late + [0, -1]), Poly(late + [-1, -1])]
        for poly in polys:
            self.assertLessEqual(max([abs(number) for number in poly.numbers]), most)
            row = self.check_not_real(poly).row
            self.assertLess(max([abs(number) for number in row]), 10 ** 4000)

    def test_long_numbers(self):
        draw = random.Random(13)
        self.check_not_real(Poly([LONG] + [draw.randint(-LONG, LONG) for _ in range(24)]))
        self.check_real(with_roots([draw.randint(-LONG, LONG) for _ in range(16)]))
        self.check_real(times(with_roots([LONG] * 3), with_roots([LONG - 1, -LONG])))
        self.check_not_real(times(with_roots([draw.randint(-LONG, LONG) for _ in range(10)]), Poly([1, 0, 1])))

    def test_rows_of_others(self):
        plus = Poly([1, 0, 1])
        cases = [((0, 1), True), ((1, 2), True), ((-1, 2), True), ((1, 1), False), ((1, 0), False), ((0, 0), False), ((), False),
                 ((0,), False), ((0, 1, 0), False), ((0, 1.0), False), ((0, True), False), ((False, 1), False), ("01", False),
                 ((0, 10 ** 4900), True), (((0,), (1,)), False)]
        for row, wanted in cases:
            check_same(self, shows_all_real(plus, NotReal(row)), wanted)
            check_same(self, shows_all_real(poly=plus, value=NotReal(list(row))), wanted)
            check_same(self, shows_all_real(with_roots([1, 2]), NotReal(row)), False)
        for value in no_integer_lists() + [0, 1]:
            check_same(self, shows_all_real(plus, NotReal(value)), False)
        check_same(self, shows_all_real(Poly([1]), NotReal(())), False)

    def test_other_values_are_no_papers(self):
        class Below(AllReal):
            pass

        for value in no_integers() + [0, 1, SomeAbove(0), NoneAbove([]), Strange(), Below()]:
            check_same(self, shows_all_real(with_roots([1]), value), False)
            check_same(self, shows_all_real(Poly([1, 0, 1]), value), False)

    def test_derived_polys_stay_real(self):
        poly = with_roots([-5, -5, 0, 2, 9, 9, 9])
        while poly.degree > 0:
            self.check_real(poly)
            poly = derived(poly)


class Within(unittest.TestCase):
    def check_within(self, poly, bound, wanted):
        numbers = shifted(poly, bound)
        below = [poly.degree - at for at, each in enumerate(numbers) if sign_of(each) < 0]
        paper = within(poly=poly, bound=bound)
        self.assertEqual(paper, SomeAbove(below[0]) if below else NoneAbove(numbers))
        check_same(self, bool(paper), wanted)
        check_same(self, shows_within(poly, bound, paper), True)

    def test_at_the_greatest_root(self):
        for roots in ([0], [4], [-3, -3], [2, 2, 2], [-7, 0, 5], [1, 2, 3, 4, 5, 6]):
            poly, top = with_roots(roots), max(roots)
            for under in (0, 2, 9):
                self.check_within(poly, Bound(top, 0, under), True)
                self.check_within(poly, Bound(top + 1, 0, under), True)
                self.check_within(poly, Bound(top - 1, 0, under), False)
                self.check_within(poly, Bound(min(roots) - 5, 0, under), False)
            # The same number with a square, and a 0, under the root; then a little less.
            self.check_within(poly, Bound(top - 3, 1, 9), True)
            self.check_within(poly, Bound(top, -4, 0), True)
            self.check_within(poly, Bound(top - 3, 1, 8), False)
            self.check_within(poly, Bound(top - 3, 1, 10), True)

    def test_roots_that_are_no_integers(self):
        poly = product([[1, 0, -2], [1, -4, 2]])
        self.check_within(poly, Bound(2, 1, 2), True)
        self.check_within(poly, Bound(2, 1, 3), True)
        self.check_within(poly, Bound(0, 1, 11), False)
        self.check_within(poly, Bound(0, 1, 12), True)
        # Root 99 is near 9.94987; 2 + root 2 is above 341421 / 100000.
        self.check_within(Poly([1, 0, -99]), Bound(0, 1, 99), True)
        self.check_within(Poly([1, 0, -99]), Bound(0, 3, 11), True)
        self.check_within(Poly([1, 0, -99]), Bound(-1, 1, 119), False)
        self.check_within(Poly([2, -7]), Bound(3, 0, 0), False)
        self.check_within(Poly([2, -7]), Bound(4, 0, 0), True)

    def test_without_roots(self):
        self.check_within(Poly([5]), Bound(-100, 0, 0), True)
        self.assertEqual(within(Poly([5]), Bound(-100, 3, 7)).numbers, (Bound(5, 0, 7),))

    def test_the_power_is_the_highest(self):
        # x^2 (x - 9) shifted by 1 is x^3 - 6 x^2 - 15 x - 8.
        self.assertEqual(within(Poly([1, -9, 0, 0]), Bound(1, 0, 0)), SomeAbove(2))
        self.assertEqual(within(Poly([1, 0, 0]), Bound(-1, 0, 0)), SomeAbove(1))

    def test_not_real(self):
        for poly in (Poly([1, 0, 1]), Poly([1, 0, 0, 1]), Poly([1] + [0] * 23 + [4])):
            check_raises(self, Impossible(all_real(poly)), within, poly, Bound(9, 0, 0))
            for value in (NoneAbove(shifted(poly, Bound(9, 0, 0))), SomeAbove(0), all_real(poly), AllReal()):
                check_same(self, shows_within(poly, Bound(9, 0, 0), value), False)

    def test_papers_that_are_bent(self):
        poly, over, below = with_roots([1, 2]), Bound(2, 1, 3), Bound(1, 0, 3)
        numbers = list(within(poly, over).numbers)
        self.assertTrue(shows_within(poly=poly, bound=over, value=NoneAbove(numbers)))
        for at, each in enumerate(numbers):
            for bent in (Bound(each.whole + 1, each.part, 3), Bound(each.whole, each.part + 1, 3), Bound(each.whole, each.part, 4),
                         each.whole, None, Strange()):
                check_same(self, shows_within(poly, over, NoneAbove(numbers[:at] + [bent] + numbers[at + 1:])), False)
        for value in (NoneAbove(numbers[1:]), NoneAbove(numbers + numbers[-1:]), NoneAbove(()), NoneAbove(3), SomeAbove(0)):
            check_same(self, shows_within(poly, over, value), False)
        power = within(poly, below).power
        for value in no_integers() + [power + 1, power - 1, float(power), [power], Strange()]:
            check_same(self, shows_within(poly, below, SomeAbove(value)), False)
        check_same(self, shows_within(poly, below, NoneAbove(shifted(poly, below))), False)
        for value in no_integers() + [0, 1]:
            check_same(self, shows_within(poly, over, value), False)

    def test_true_and_false_are_no_powers(self):
        for poly, bound, power in ((with_roots([4]), Bound(3, 0, 0), 0), (Poly([1, -4, 4]), Bound(0, 0, 0), 1)):
            self.assertTrue(shows_within(poly, bound, SomeAbove(power)))
            self.assertFalse(shows_within(poly, bound, SomeAbove(bool(power))))


class Wrong(unittest.TestCase):
    def test_wrong_arguments(self):
        right, bound, high = Poly([1, 2]), Bound(1, 0, 0), Poly([1] + [0] * 25)
        for value in no_kind(Poly):
            check_raises(self, BadPoly("poly"), power_table, value)
            check_raises(self, BadPoly("poly"), all_real, value)
            for paper in (value, AllReal(), NotReal([0, 1])):
                check_raises(self, BadPoly("poly"), shows_all_real, value, paper)
            check_raises(self, BadPoly("poly"), within, value, value)
            check_raises(self, BadPoly("poly"), shows_within, value, value, value)
        for value in no_kind(Bound):
            for poly in (right, high, Poly([1, 0, 1])):
                check_raises(self, BadBound("bound"), within, poly, value)
                check_raises(self, BadBound("bound"), shows_within, poly, value, value)
        error = TooMany("degree", 24)
        check_raises(self, error, power_table, high)
        check_raises(self, error, all_real, high)
        check_raises(self, error, within, high, bound)
        for paper in (None, AllReal(), NotReal([0] * 25), SomeAbove(0)):
            check_raises(self, error, shows_all_real, high, paper)
            check_raises(self, error, shows_within, high, bound, paper)
        # Ahead of Impossible.
        check_raises(self, error, within, Poly([1] + [0] * 24 + [2]), bound)
        self.assertIsNone(raised(within, Poly([1] + [0] * 24), bound))


if __name__ == "__main__":
    unittest.main()
