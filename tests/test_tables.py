"""Tables and their polys."""

import itertools
import random
import unittest

from goodsigns.errors import BadNumber
from goodsigns.polys import Poly, times
from goodsigns.reals import all_real
from goodsigns.tables import table_poly
from helpers import check_raises, no_integers, numbers_by_traces


def drawn_table(draw, many, values):
    """A table with drawn values, its rows lists or tuples."""
    rows = [[0] * many for _ in range(many)]
    for i in range(many):
        for j in range(i + 1):
            rows[i][j] = rows[j][i] = draw.choice(values)
    return draw.choice([list, tuple])([draw.choice([list, tuple])(row) for row in rows])


def numbers_by_permutations(table):
    """The numbers of the poly of a table, by the determinant with x added where i is j."""
    many = len(table)
    total = [0] * (many + 1)
    for order in itertools.permutations(range(many)):
        turns = sum([order[i] > order[j] for i, j in itertools.combinations(range(many), 2)])
        product = [(-1) ** turns]
        for i, j in enumerate(order):
            # Times x, or times 0, less table[i][j] times what there is.
            ahead = product + [0] if i == j else [0] * (i + 2)
            product = [mine - table[i][j] * its for mine, its in zip(ahead, [0] + product)]
        total = [mine + its for mine, its in zip(total, product)]
    return tuple(total)


class TablePolys(unittest.TestCase):
    def test_by_permutations(self):
        draw = random.Random(31)
        for _ in range(60):
            table = drawn_table(draw, draw.randint(1, 5), draw.choice([range(-9, 10), (0, 1, -1), (0, 0, 0, 3)]))
            found = table_poly(table)
            self.assertIs(type(found), Poly)
            self.assertEqual(found.numbers, numbers_by_permutations(table))
            self.assertEqual(found, table_poly(table=[list(row) for row in table]))

    def test_one_row(self):
        for number in (0, 1, -1, 7, 10 ** 64, -10 ** 64):
            self.assertEqual(table_poly([[number]]).numbers, (1, -number))
            self.assertEqual(table_poly(((number,),)).numbers, (1, -number))

    def test_many_rows(self):
        draw = random.Random(32)
        for many in (6, 11, 23, 24):
            for values in (range(-9, 10), (0, 1), (0, 0, 0, 0, -1), [draw.randint(-10 ** 60, 10 ** 60) for _ in range(50)]):
                table = drawn_table(draw, many, values)
                self.assertEqual(table_poly(table).numbers, numbers_by_traces(table))

    def test_long_integers(self):
        long = 10 ** 65 - 1
        draw = random.Random(33)
        for many in (2, 3, 24):
            table = drawn_table(draw, many, [long, -long, long // 7, 0])
            self.assertEqual(table_poly(table).numbers, numbers_by_traces(table))

    def test_zeros_and_equal_rows(self):
        self.assertEqual(table_poly([[0] * 24] * 24).numbers, (1,) + (0,) * 24)
        self.assertEqual(table_poly([[1] * 24] * 24).numbers, (1, -24) + (0,) * 23)
        self.assertEqual(table_poly([[5] * 3] * 3).numbers, (1, -15, 0, 0))
        ones = [[7 if i == j else 0 for j in range(24)] for i in range(24)]
        found = Poly([1])
        for _ in range(24):
            found = times(found, Poly([1, -7]))
        self.assertEqual(table_poly(ones), found)
        self.assertEqual(table_poly([[0, 0, 3], [0, 0, 0], [3, 0, 0]]).numbers, (1, 0, -9, 0))

    def test_rows_and_columns_in_another_order(self):
        draw = random.Random(34)
        for many in (2, 5, 24):
            table = drawn_table(draw, many, range(-50, 51))
            order = draw.sample(range(many), many)
            self.assertEqual(table_poly([[table[i][j] for j in order] for i in order]), table_poly(table))
            turned = [draw.choice((1, -1)) for _ in range(many)]
            signed = [[turned[i] * turned[j] * table[i][j] for j in range(many)] for i in range(many)]
            self.assertEqual(table_poly(signed), table_poly(table))

    def test_two_tables_beside_one_another(self):
        draw = random.Random(35)
        for one, other in ((1, 1), (3, 4), (12, 12), (1, 23)):
            left, right = (drawn_table(draw, many, range(-20, 21)) for many in (one, other))
            both = [list(row) + [0] * other for row in left] + [[0] * one + list(row) for row in right]
            self.assertEqual(table_poly(both), times(table_poly(left), table_poly(right)))

    def test_facts(self):
        draw = random.Random(36)
        for _ in range(20):
            table = drawn_table(draw, draw.randint(1, 8), range(-9, 10))
            found = table_poly(table)
            self.assertEqual((found.degree, found.numbers[0]), (len(table), 1))
            self.assertEqual(found.numbers[1], -sum([table[i][i] for i in range(len(table))]))
            self.assertTrue(all_real(found))

    def test_no_tables(self):
        cases = no_integers() + [0, 1, [[]], [()], [[1], [1]], [[1, 2]], [[1, 2], [2]], [[1, 2], [2, 1, 0]], [[1, 2], [3, 1]],
                                 [[1, 2, 3], [2, 1, 4], [3, 5, 1]], [[0, 1], [-1, 0]], [1], [1, 2], [[1, 0], 0], [[1, 0], "01"],
                                 [[1, 0], {0: 0, 1: 0}], ["1"], [range(1)], {0: [1]}, [[[1]]], [[0] * 25] * 25,
                                 [[0] * 24] * 25, [[0] * 25] * 24, [[0] * 24] * 23]
        for table in cases:
            check_raises(self, BadNumber("table"), table_poly, table)
        for value in no_integers():
            for table in ([[value]], [[1, value], [value, 1]], [[1, 0], [0, value]], ((value, 0), (0, 1)), [[0], [value]], [[1, 2], value]):
                check_raises(self, BadNumber("table"), table_poly, table)

    def test_one_wrong_integer_in_a_great_table(self):
        draw = random.Random(37)
        for _ in range(30):
            rows = [list(row) for row in drawn_table(draw, 24, range(2, 9))]
            i, j = draw.randrange(24), draw.randrange(24)
            if i != j:
                rows[i][j] += 1
                check_raises(self, BadNumber("table"), table_poly, rows)
                rows[i][j] = rows[j][i]
            rows[i][j] = True
            check_raises(self, BadNumber("table"), table_poly, rows)

    def test_what_is_passed_stays(self):
        table = [[1, 2], [2, -3]]
        table_poly(table)
        self.assertEqual(table, [[1, 2], [2, -3]])


if __name__ == "__main__":
    unittest.main()
