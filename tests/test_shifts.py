"""Polys shifted by bounds."""

import random
import unittest

from goodsigns.bounds import Bound, added, multiplied
from goodsigns.errors import BadBound, BadPoly
from goodsigns.polys import Poly
from goodsigns.shifts import shifted
from helpers import check_raises, no_kind


def by_powers(poly, bound):
    """The shifted numbers, opened power by power."""
    found = [Bound(0, 0, bound.under)] * (poly.degree + 1)
    power = [Bound(1, 0, bound.under)]
    for number in reversed(poly.numbers):
        for at, each in enumerate(power):
            scaled = multiplied(each, Bound(number, 0, bound.under))
            found[poly.degree - at] = added(found[poly.degree - at], scaled)
        raised = [multiplied(each, bound) for each in power] + [Bound(1, 0, bound.under)]
        power = [raised[0]] + [added(raised[at], power[at - 1]) for at in range(1, len(raised) - 1)] + [raised[-1]]
    return tuple(found)


class Shifted(unittest.TestCase):
    def test_numbers_that_are_told(self):
        cases = [([1, 0, -2], (0, 1, 4), ["1 0 4", "0 2 4", "2 0 4"]), ([5], (3, -7, 2), ["5 0 2"]),
                 ([1, 0], (3, -7, 2), ["1 0 2", "3 -7 2"]), ([1, 0, 0], (1, 2, 0), ["1 0 0", "2 4 0", "1 4 0"]),
                 ([2, 1], (-4, 0, 9), ["2 0 9", "-7 0 9"]), ([1, 0, 0, 0], (0, 1, 3), ["1 0 3", "0 3 3", "9 0 3", "0 3 3"])]
        for numbers, bound, wanted in cases:
            found = shifted(Poly(numbers), Bound(*bound))
            self.assertIs(type(found), tuple)
            self.assertEqual([str(each) for each in found], wanted)

    def test_against_powers(self):
        draw = random.Random(7)
        for _ in range(120):
            size = draw.choice([3, 10 ** 20])
            numbers = [draw.randint(1, size)] + [draw.randint(-size, size) for _ in range(draw.randint(0, 7))]
            bound = Bound(draw.randint(-size, size), draw.choice([0, 1, -draw.randint(0, size)]), draw.randint(0, 9))
            self.assertEqual(shifted(poly=Poly(numbers), bound=bound), by_powers(Poly(numbers), bound))

    def test_long_ones_have_a_text(self):
        long = 10 ** 65 - 1
        found = shifted(Poly([long] * 64), Bound(long, -long, long))
        self.assertEqual(len(found), 64)
        self.assertGreater(len(str(found[-1])), 10000)
        self.assertEqual({each.under for each in found}, {long})

    def test_wrong_arguments(self):
        for value in no_kind(Poly):
            check_raises(self, BadPoly("poly"), shifted, value, Bound(1, 0, 0))
        for value in no_kind(Bound):
            check_raises(self, BadBound("bound"), shifted, Poly([1, 2]), value)
        check_raises(self, BadPoly("poly"), shifted, Bound(1, 0, 0), Poly([1]))


if __name__ == "__main__":
    unittest.main()
