"""What values are; divisors and roots."""

import random
import unittest

from goodsigns.checks import are_integers, common_divisor, is_integer, is_name, is_within, whole_root
from goodsigns.errors import BadNumber
from helpers import check_raises, check_same, no_integer_lists, no_integers

LONG = 10 ** 300 + 7


class Kinds(unittest.TestCase):
    def test_is_integer(self):
        for value in (0, 1, -1, 7, LONG, -LONG):
            check_same(self, is_integer(value), True)
        for value in no_integers():
            check_same(self, is_integer(value), False)
        check_same(self, is_integer(value=3), True)

    def test_is_within(self):
        for least, most in ((None, None), (None, 5), (-5, None), (-5, 5), (0, 0)):
            for value in range(-8, 9):
                wanted = (least is None or value >= least) and (most is None or value <= most)
                check_same(self, is_within(value, least, most), wanted)
        check_same(self, is_within(LONG, LONG, LONG), True)
        check_same(self, is_within(LONG, None, LONG - 1), False)
        check_same(self, is_within(-LONG, 1 - LONG, None), False)
        check_same(self, is_within(value=4, least=3, most=5), True)
        for value in no_integers():
            check_same(self, is_within(value, None, None), False)
            check_same(self, is_within(value, 0, 1), False)

    def test_are_integers(self):
        for value in ([], (), [0], (-1,), [1, 2, 3], [LONG, -LONG]):
            check_same(self, are_integers(value), True)
        for value in no_integer_lists():
            check_same(self, are_integers(value), False)
        check_same(self, are_integers([1, [2]]), False)
        check_same(self, are_integers(value=[1]), True)

    def test_is_name(self):
        for value in ("a", "z9", "abcdefghijkl", "a00000000000", "q1w2"):
            check_same(self, is_name(value), True)
        for value in ("", "1", "1a", "A", "aB", "abcdefghijklm", "a_", "a b", " a", "a ", "a\n", "a-b", "\u00e4", "a\u0661",
                      "a\u00b2", "\uff41", b"a", ["a"], ("a",), None, 1, True, {"a": 1}):
            check_same(self, is_name(value), False)
        check_same(self, is_name(value="a"), True)


class Divisors(unittest.TestCase):
    def test_common_divisor(self):
        cases = [([], 0), ([0], 0), ([0, 0], 0), ([5], 5), ([-5], 5), ([4, 6], 2), ((-12, 18, 0), 6), ([7, 9], 1),
                 ([LONG * 6, -LONG * 15], LONG * 3), ([0, -8, 0], 8)]
        for values, wanted in cases:
            check_same(self, common_divisor(values), wanted)
        check_same(self, common_divisor(values=[2]), 2)

    def test_divides_all_and_is_greatest(self):
        draw = random.Random(1)
        for _ in range(200):
            values = [draw.randint(-60, 60) * draw.randint(1, 6) for _ in range(draw.randint(1, 4))]
            wanted = max([k for k in range(1, 400) if all(value % k == 0 for value in values)])
            if any(values):
                self.assertEqual(common_divisor(values), wanted)

    def test_common_divisor_of_other_values(self):
        for value in no_integer_lists():
            check_raises(self, BadNumber("values"), common_divisor, value)

    def test_whole_root(self):
        for root in (0, 1, 2, 3, 99, 10 ** 20 + 3, LONG):
            check_same(self, whole_root(root * root), root)
            check_same(self, whole_root((root + 1) ** 2 - 1), root)
            check_same(self, whole_root(root * root + (1 if root else 0)), root)
        check_same(self, whole_root(number=10), 3)

    def test_whole_root_of_other_values(self):
        for value in no_integers() + [-1, -LONG]:
            check_raises(self, BadNumber("number"), whole_root, value)


if __name__ == "__main__":
    unittest.main()
