"""What sums of dealings are added up from: the spans of sets of vectors."""

import itertools
import random
import unittest

from goodsigns.dealings import spans_of, sum_of_dealings
from goodsigns.polys import Poly
from goodsigns.vectors import Vectors
from helpers import drawn_vectors, numbers_by_traces, numbers_of_dealings


def span(rows):
    """The determinant of the table of the products of rows with one another."""
    table = [[sum([a * b for a, b in zip(one, other)]) for other in rows] for one in rows]
    return (-1) ** len(rows) * numbers_by_traces(table)[-1]


class Spans(unittest.TestCase):
    def check_spans(self, rows):
        """Check the spans of all sets of rows against determinants."""
        spans = spans_of(rows)
        self.assertEqual(len(spans), len(rows[0]) + 1)
        for size in range(len(rows) + 1):
            wanted = {}
            for places in itertools.combinations(range(len(rows)), size):
                wanted[sum([2 ** at for at in places])] = span([rows[at] for at in places])
            # A set of more vectors than the length of the rows has no span.
            told = spans[size] if size < len(spans) else []
            self.assertEqual(sorted(told), sorted([(bits, number) for bits, number in wanted.items() if number != 0]))

    def test_drawn_vectors(self):
        draw = random.Random(171)
        for _ in range(60):
            length = draw.randint(1, 3)
            self.check_spans(Vectors(drawn_vectors(draw, length, draw.randint(length, 6))).rows)

    def test_any_rows(self):
        draw = random.Random(172)
        for _ in range(60):
            length = draw.randint(1, 3)
            most = draw.choice([1, 2, 5, 10 ** 65])
            self.check_spans([[draw.randint(-most, most) for _ in range(length)] for _ in range(draw.randint(1, 6))])

    def test_rows_on_a_line_and_in_a_plane(self):
        self.check_spans([[1, 2, 3], [-2, -4, -6], [0, 0, 0], [1, 2, 3]])
        self.check_spans([[1, 0, 2], [0, 1, -1], [1, 1, 1], [2, -1, 5]])
        self.check_spans([[3, 4], [4, -3], [7, 1], [0, 0], [6, 8]])
        self.check_spans([[0], [2], [-3]])
        self.assertEqual(spans_of([[0, 0]]), [[(0, 1)], [], []])
        self.assertEqual(spans_of([[1, 0, 0], [0, 2, 0], [0, 0, 3]])[3], [(7, 36)])


class Sums(unittest.TestCase):
    def test_rows_that_do_not_add_up(self):
        # The sum is right for any rows, of any number of lots.
        draw = random.Random(173)
        for _ in range(60):
            length, many = draw.randint(1, 3), draw.randint(2, 4)
            rows = [[draw.randint(-3, 3) for _ in range(length)] for _ in range(draw.randint(1, 4))]
            dealt = [draw.choice([None, draw.randrange(many)]) for _ in rows]
            self.assertEqual(sum_of_dealings(spans_of(rows), many, dealt), Poly(numbers_of_dealings(rows, many, dealt)))


if __name__ == "__main__":
    unittest.main()
