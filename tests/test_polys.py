"""Polys: their numbers, products, quotients, derivatives, texts."""

import random
import unittest

from goodsigns.bounds import Bound
from goodsigns.errors import BadNumber, BadPoly, BadText, Misfit, TooMany
from goodsigns.polys import Poly, derived, divided, in_squares, lessened, mixed, times
from helpers import check_raises, check_same, no_integer_lists, no_integers, no_kind

LONG = 10 ** 64 + 9


def drawn(draw, degree, size):
    """A drawn poly of this degree."""
    return Poly([draw.randint(1, size)] + [draw.randint(-size, size) for _ in range(degree)])


class Polys(unittest.TestCase):
    def test_attributes(self):
        for numbers in ([1], [7, 0], [3] + [0] * 63, [LONG, -LONG], [2, -5, 0, 1]):
            for told in (numbers, tuple(numbers)):
                poly = Poly(told)
                check_same(self, poly.numbers, tuple(numbers))
                self.assertEqual(poly.degree, len(numbers) - 1)
        self.assertEqual(Poly(numbers=[1]).degree, 0)

    def test_numbers_are_copied(self):
        numbers = [1, 2]
        poly = Poly(numbers)
        numbers.append(3)
        self.assertEqual((poly.numbers, poly.degree), ((1, 2), 1))

    def test_wrong_numbers(self):
        for value in no_integer_lists() + [[], (), [1] * 65, [0] * 65, [1, 2, True]]:
            check_raises(self, BadPoly("numbers"), Poly, value)
        for value in ([0], [-1], (0, 1), [-LONG, 5], [0] * 64):
            check_raises(self, BadPoly("first"), Poly, value)

    def test_equality(self):
        self.assertTrue(Poly([1, 2]) == Poly((1, 2)))
        for other in (Poly([1, 3]), Poly([1]), Poly([1, 2, 0]), Poly([2, 4])):
            check_same(self, Poly([1, 2]) == other, False)
            check_same(self, Poly([1, 2]) != other, True)
        for other in no_kind(Poly):
            check_same(self, Poly([1, 2]) == other, False)

    def test_worth(self):
        draw = random.Random(3)
        for degree in (0, 1, 2, 5, 63):
            poly = drawn(draw, degree, LONG)
            for x in (0, 1, -1, 2, -7, LONG):
                wanted = sum([number * x ** (degree - at) for at, number in enumerate(poly.numbers)])
                check_same(self, poly.worth(x), wanted)
        self.assertEqual(Poly([1, 0, -3, -2]).worth(x=2), 0)
        for value in no_integers():
            check_raises(self, BadNumber("x"), Poly([1, 2]).worth, value)


class Sums(unittest.TestCase):
    def test_times(self):
        draw = random.Random(4)
        for _ in range(60):
            one, other = drawn(draw, draw.randint(0, 8), 9), drawn(draw, draw.randint(0, 8), LONG)
            product = times(one, other)
            self.assertEqual(product, times(one=other, other=one))
            self.assertEqual(product.degree, one.degree + other.degree)
            for x in range(-9, 10):
                self.assertEqual(product.worth(x), one.worth(x) * other.worth(x))

    def test_times_up_to_64_numbers(self):
        self.assertEqual(times(Poly([1] + [0] * 31), Poly([1] + [0] * 32)).degree, 63)
        check_raises(self, TooMany("numbers", 64), times, Poly([1] + [0] * 32), Poly([1] + [0] * 32))
        check_raises(self, TooMany("numbers", 64), times, Poly([1] + [0] * 63), Poly([1, 0]))
        self.assertEqual(times(Poly([1] + [0] * 63), Poly([2])).numbers[0], 2)

    def test_mixed(self):
        one, other = Poly([1, -2, 3]), Poly([4, 0, -LONG])
        for mine, its in ((0, 1), (1, 0), (2, 3), (LONG, 1)):
            wanted = tuple([mine * a + its * b for a, b in zip(one.numbers, other.numbers)])
            self.assertEqual(mixed(one, other, mine, its).numbers, wanted)
        self.assertEqual(mixed(its=1, mine=1, other=Poly([2]), one=Poly([1])).numbers, (3,))

    def test_mixed_errors_in_their_order(self):
        right, longer = Poly([1, 2]), Poly([1, 2, 3])
        for value in no_integers() + [-1]:
            check_raises(self, BadNumber("mine"), mixed, right, longer, value, value)
            check_raises(self, BadNumber("its"), mixed, right, longer, 1, value)
            check_raises(self, BadNumber("its"), mixed, right, longer, 0, value)
        check_raises(self, BadNumber("its"), mixed, right, right, 0, 0)
        check_raises(self, Misfit("degree"), mixed, right, longer, 1, 0)
        check_raises(self, Misfit("degree"), mixed, longer, right, 0, 1)

    def test_divided(self):
        draw = random.Random(5)
        for _ in range(100):
            by, wanted = drawn(draw, draw.randint(0, 6), 9), drawn(draw, draw.randint(0, 6), LONG)
            product = times(by, wanted)
            self.assertEqual(divided(product, by), wanted)
            bent = list(product.numbers)
            bent[-1] += 1
            if by.degree > 0 or by.numbers[0] > 1:
                check_raises(self, Misfit("rest"), divided, Poly(bent), by)

    def test_divided_that_leaves_something(self):
        cases = [([1, 1], [2]), ([1, 0], [1, 1]), ([1], [1, 0]), ([2, 1], [2]), ([1, 0, 0], [2, 0]), ([3, 1, 1], [3, 0]),
                 ([1, 1], [1, 1, 0]), ([4, 0, 1], [2, 1]), ([1, 3, 2], [2, 2])]
        for poly, by in cases:
            check_raises(self, Misfit("rest"), divided, Poly(poly), Poly(by))
        self.assertEqual(divided(poly=Poly([2, 4]), by=Poly([2])).numbers, (1, 2))
        self.assertEqual(divided(Poly([3, 6, 3]), Poly([3, 3])).numbers, (1, 1))

    def test_derived(self):
        self.assertEqual(derived(Poly([1, 0])).numbers, (1,))
        self.assertEqual(derived(poly=Poly([2, -3, 4, 9])).numbers, (6, -6, 4))
        self.assertEqual(derived(Poly([1] + [0] * 63)).numbers, tuple([63] + [0] * 62))
        check_raises(self, Misfit("degree"), derived, Poly([5]))

    def test_in_squares(self):
        cases = [([5], 0, [5]), ([5, 0], 1, [5]), ([1, 0, 0], 0, [1, 0]), ([1, 0, -4, 0, 2], 0, [1, -4, 2]),
                 ([2, 0, 6, 0], 1, [2, 6]), ([1, 0, 0, 0], 1, [1, 0])]
        for poly, power, numbers in cases:
            self.assertEqual(in_squares(Poly(poly)), (power, Poly(numbers)))
        self.assertIs(type(in_squares(poly=Poly([5]))), tuple)
        for poly in ([1, 1], [1, 0, 1, 1], [1, 0, 0, 1], [1, 2, 0]):
            check_raises(self, Misfit("even"), in_squares, Poly(poly))

    def test_lessened(self):
        cases = [([7], [1]), ([4, -6], [2, -3]), ([3, 0, 9], [1, 0, 3]), ([2, 3], [2, 3]), ([LONG, 0, -LONG * 5], [1, 0, -5])]
        for poly, wanted in cases:
            self.assertEqual(lessened(Poly(poly)).numbers, tuple(wanted))
        self.assertEqual(lessened(poly=Poly([2])).numbers, (1,))

    def test_wrong_polys(self):
        right = Poly([1, 2])
        for value in no_kind(Poly):
            for function in (derived, in_squares, lessened):
                check_raises(self, BadPoly("poly"), function, value)
            check_raises(self, BadPoly("poly"), divided, value, value)
            check_raises(self, BadPoly("by"), divided, right, value)
            check_raises(self, BadPoly("one"), times, value, value)
            check_raises(self, BadPoly("other"), times, right, value)
            check_raises(self, BadPoly("one"), mixed, value, value, -1, -1)
            check_raises(self, BadPoly("other"), mixed, right, value, -1, -1)


class Texts(unittest.TestCase):
    def test_text_and_read(self):
        draw = random.Random(6)
        for degree in (0, 1, 2, 30, 63):
            poly = drawn(draw, degree, 10 ** 60 - 1)
            text = " ".join([str(number) for number in poly.numbers])
            self.assertEqual(str(poly), text)
            self.assertEqual(Poly.read(text), poly)
        self.assertEqual(poly.read(text="3 -1"), Poly([3, -1]))
        self.assertEqual(str(Poly([10 ** 4999 + 5])), "1" + "0" * 4998 + "5")

    def test_read_of_other_values(self):
        for value in no_integers() + [0, [1, 2], Bound(1, 0, 0)]:
            if not isinstance(value, str):
                check_raises(self, BadText(0, 0), Poly.read, value)

    def test_items_that_cannot_stand(self):
        cases = [("", 0), (" ", 0), ("0", 0), ("-1", 0), ("0 x", 0), ("1 ", 1), ("1  2", 1), (" 1", 0), ("1 x 2", 1),
                 ("1 2 +3", 2), ("1 2 -0", 2), ("1 2 03", 2), ("1 2\n", 1), ("1 2 \u0662", 2), ("1 -" + "9" * 61, 1),
                 ("1" + "0" * 60, 0), (" ".join(["1"] * 65), 64), (" ".join(["1"] * 64 + ["x", "y"]), 64),
                 (" ".join(["1"] * 63 + ["x", "1"]), 63), (" ".join(["1"] * 64) + " ", 64), ("1 2.0", 1), ("1,2", 0)]
        for text, item in cases:
            check_raises(self, BadText(0, item), Poly.read, text)
        self.assertEqual(Poly.read(" ".join(["1"] * 64)).degree, 63)
        self.assertEqual(Poly.read("1 -" + "9" * 60).numbers, (1, 1 - 10 ** 60))


if __name__ == "__main__":
    unittest.main()
