"""Bounds: signs, sums, products, order, texts."""

import itertools
import random
import unittest
from decimal import Decimal, getcontext

from goodsigns.bounds import Bound, added, at_most, multiplied, sign_of
from goodsigns.errors import BadBound, BadNumber, BadText, Misfit
from helpers import check_raises, check_same, no_integers, no_kind

LONG = 10 ** 200 + 3
SMALL = [Bound(*each) for each in itertools.product((-3, -1, 0, 2), (-2, 0, 1), (0, 1, 2, 3, 4))]


def near(bound):
    """The number of a bound to many digits."""
    return Decimal(bound.whole) + Decimal(bound.part) * Decimal(bound.under).sqrt()


def near_sign(number):
    """The sign of a number that is known to many digits."""
    return 0 if abs(number) < Decimal(10) ** -30 else (1 if number > 0 else -1)


def fit(one, other):
    """Whether two bounds fit, as the document says it."""
    return one.under == other.under or one.part == 0 or other.part == 0


class Bounds(unittest.TestCase):
    def setUp(self):
        getcontext().prec = 60

    def test_attributes(self):
        bound = Bound(3, -1, 8)
        self.assertEqual((bound.whole, bound.part, bound.under), (3, -1, 8))
        named = Bound(under=LONG, part=-LONG, whole=LONG)
        self.assertEqual((named.whole, named.part, named.under), (LONG, -LONG, LONG))

    def test_equality_is_of_the_attributes(self):
        self.assertTrue(Bound(1, 2, 3) == Bound(1, 2, 3))
        for other in (Bound(0, 2, 3), Bound(1, 0, 3), Bound(1, 2, 4), Bound(1, 2, 0)):
            self.assertFalse(Bound(1, 2, 3) == other)
        # The same numbers, told in unlike ways.
        for one, other in ((Bound(0, 2, 4), Bound(4, 0, 4)), (Bound(3, 0, 5), Bound(3, 0, 7)), (Bound(0, 1, 0), Bound(0, 0, 0))):
            check_same(self, one == other, False)
            check_same(self, one != other, True)
        for other in no_kind(Bound):
            check_same(self, Bound(1, 0, 0) == other, False)

    def test_wrong_numbers(self):
        for value in no_integers():
            check_raises(self, BadNumber("whole"), Bound, value, 0, 0)
            check_raises(self, BadNumber("part"), Bound, 0, value, 0)
            check_raises(self, BadNumber("under"), Bound, 0, 0, value)
            check_raises(self, BadNumber("whole"), Bound, value, value, value)
            check_raises(self, BadNumber("part"), Bound, 0, value, -1)
        check_raises(self, BadNumber("under"), Bound, 1, 1, -1)
        check_raises(self, BadNumber("under"), Bound, 1, 1, -LONG)

    def test_sign_of(self):
        cases = [((0, 0, 0), 0), ((0, 5, 0), 0), ((2, -9, 0), 1), ((-2, 9, 0), -1), ((0, 3, 2), 1), ((0, -3, 2), -1),
                 ((-3, 1, 9), 0), ((3, -1, 9), 0), ((-3, 1, 8), -1), ((-3, 1, 10), 1), ((3, -1, 8), 1), ((3, -1, 10), -1),
                 ((-4, 2, 4), 0), ((1, 1, 7), 1), ((-1, -1, 7), -1), ((1, 0, 7), 1), ((-1, 0, 7), -1)]
        for told, wanted in cases:
            check_same(self, sign_of(Bound(*told)), wanted)
        check_same(self, sign_of(Bound(LONG, -1, LONG * LONG)), 0)
        check_same(self, sign_of(Bound(LONG, -1, LONG * LONG + 1)), -1)
        check_same(self, sign_of(Bound(-LONG, 1, LONG * LONG - 1)), -1)
        check_same(self, sign_of(bound=Bound(-LONG, 1, LONG * LONG + 1)), 1)
        for bound in SMALL:
            self.assertEqual(sign_of(bound), near_sign(near(bound)))

    def test_sums_and_products(self):
        for one, other in itertools.product(SMALL, SMALL):
            if not fit(one, other):
                for function in (added, multiplied, at_most):
                    check_raises(self, Misfit("under"), function, one, other)
                continue
            under = one.under if one.part != 0 or (one.part == other.part == 0) else other.under
            total, product = added(one, other), multiplied(one, other)
            self.assertEqual((total.under, product.under), (under, under))
            self.assertEqual((total.whole, total.part), (one.whole + other.whole, one.part + other.part))
            self.assertEqual(near_sign(near(product) - near(one) * near(other)), 0)
            check_same(self, at_most(one, other), near_sign(near(one) - near(other)) <= 0)

    def test_product_with_c_in_the_place_of_root_c_twice(self):
        # A square or 0 under the root is not taken out.
        self.assertEqual(multiplied(Bound(1, 1, 4), Bound(0, 1, 4)), Bound(4, 1, 4))
        self.assertEqual(multiplied(Bound(1, 2, 0), Bound(3, 4, 0)), Bound(3, 10, 0))

    def test_common_under(self):
        cases = [((1, 0, 5), (2, 0, 7), 5), ((1, 0, 5), (2, 3, 7), 7), ((1, 3, 5), (2, 0, 7), 5), ((0, 0, 2), (0, 0, 0), 2)]
        for one, other, wanted in cases:
            self.assertEqual(added(Bound(*one), Bound(*other)).under, wanted)
            self.assertEqual(multiplied(one=Bound(*one), other=Bound(*other)).under, wanted)

    def test_unlike_unders_that_are_one_number_do_not_fit(self):
        for function in (added, multiplied, at_most):
            check_raises(self, Misfit("under"), function, Bound(0, 1, 4), Bound(0, 1, 9))

    def test_at_most_of_the_same_number(self):
        check_same(self, at_most(Bound(0, 2, 4), Bound(4, 0, 0)), True)
        check_same(self, at_most(one=Bound(4, 0, 0), other=Bound(0, 2, 4)), True)
        check_same(self, at_most(Bound(LONG, 0, 0), Bound(LONG, 0, 3)), True)
        check_same(self, at_most(Bound(LONG + 1, 0, 0), Bound(LONG, 0, 3)), False)

    def test_wrong_bounds(self):
        right = Bound(0, 1, 2)
        for value in no_kind(Bound):
            check_raises(self, BadBound("bound"), sign_of, value)
            for function in (added, multiplied, at_most):
                check_raises(self, BadBound("one"), function, value, right)
                check_raises(self, BadBound("other"), function, right, value)
                check_raises(self, BadBound("one"), function, value, value)


class Texts(unittest.TestCase):
    def test_text_and_read(self):
        draw = random.Random(2)
        for _ in range(200):
            told = [draw.randint(-9, 9) * 10 ** draw.randint(0, 59), draw.randint(-99, 99), draw.randint(0, 10 ** 60 - 1)]
            text = " ".join([str(each) for each in told])
            self.assertEqual(str(Bound(*told)), text)
            self.assertEqual(Bound.read(text), Bound(*told))
            self.assertEqual(Bound(0, 0, 0).read(text=text), Bound(*told))
        for text in ("0 0 0", "-7 -1 0", "0 5 1"):
            self.assertEqual(str(Bound.read(text)), text)

    def test_text_of_long_integers(self):
        for digits in (63, 64, 65, 128, 129, 4299, 6200):
            text = f"-1{'0' * (digits - 1)} 7{'3' * (digits - 1)} 1{'0' * (digits - 2)}2"
            whole, part, under = -10 ** (digits - 1), 7 * 10 ** (digits - 1) + (10 ** (digits - 1) - 1) // 3, 10 ** (digits - 1) + 2
            self.assertEqual(str(Bound(whole, part, under)), text)

    def test_read_of_no_string(self):
        for value in no_integers() + [0, 7]:
            if not isinstance(value, str):
                check_raises(self, BadText(0, 0), Bound.read, value)

    def test_items_that_cannot_stand(self):
        nines = "9" * 60
        self.assertEqual(Bound.read(f"{nines} -{nines} {nines}"), Bound(int(nines), -int(nines), int(nines)))
        for bad in ("", "+1", "-0", "01", "-01", "00", "1.0", "a", "1a", "--1", "-", "1\t", "\n1", "\u0661", "1_0", nines + "9",
                    "-" + nines + "9", "9" * 19000):
            check_raises(self, BadText(0, 0), Bound.read, f"{bad} 1 1")
            check_raises(self, BadText(0, 1), Bound.read, f"1 {bad} 1")
            check_raises(self, BadText(0, 2), Bound.read, f"1 1 {bad}")
            check_raises(self, BadText(0, 3), Bound.read, f"1 1 1 {bad}")
            check_raises(self, BadText(0, 0), Bound.read, f"{bad} {bad}")
        check_raises(self, BadText(0, 2), Bound.read, "1 1 -1")

    def test_items_missing_or_too_many(self):
        cases = [("", 0), (" ", 0), ("1", 1), ("1 ", 1), ("1 2", 2), ("1 2 ", 2), ("1 2 3 4", 3), ("1 2 3 ", 3), (" 1 2 3", 0),
                 ("1  2 3", 1), ("x 2", 0), ("1 x", 1), ("1 2 3 4 x", 3), ("1,2,3", 0)]
        for text, item in cases:
            check_raises(self, BadText(0, item), Bound.read, text)


if __name__ == "__main__":
    unittest.main()
