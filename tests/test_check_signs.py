"""Which papers of good_signs and any_signs are right."""

import random
import unittest

from goodsigns.bounds import Bound
from goodsigns.check_signs import shows_any_signs, shows_good_signs
from goodsigns.choices import GoodSigns, NoSigns, TooGreat, any_signs, good_signs
from goodsigns.errors import BadBound, BadWeb, TooMany
from goodsigns.means import mean_poly
from goodsigns.papers import Denial, Paper
from goodsigns.reals import NoneAbove, SomeAbove, within
from goodsigns.signs import sign_poly
from goodsigns.webs import Web
from helpers import (Strange, across, all_signs, beside, check_raises, check_same, drawn_bound, drawn_web, full,
                     no_integers, no_kind, no_signs, ring_of, row_of)

TRIANGLE, SQUARE, HALL = Web(3, ring_of(3)), Web(4, ring_of(4)), Web(6, across(3, 3))
ONE, TWO = Bound(1, 0, 0), Bound(2, 0, 0)
BOTH = (shows_good_signs, shows_any_signs)


class GoodSignsPapers(unittest.TestCase):
    def test_any_signs_within_the_bound(self):
        draw = random.Random(101)
        for _ in range(30):
            web = drawn_web(draw, draw.randint(1, 5), 0.6)
            bound = drawn_bound(draw, web)
            rows = all_signs(web)
            for signs in draw.sample(rows, min(len(rows), 16)):
                wanted = bool(within(sign_poly(web, signs), bound))
                for shows in BOTH:
                    check_same(self, shows(web, bound, GoodSigns(list(signs))), wanted)
                    check_same(self, shows(web=web, bound=bound, value=GoodSigns(signs)), wanted)

    def test_a_pairing_poly_that_is_not_within(self):
        # Of three places on each side the pairing poly is not within 2, but some signs are.
        good = any_signs(HALL, TWO)
        for shows in BOTH:
            check_same(self, shows(HALL, TWO, good), True)
        self.assertEqual([shows_good_signs(HALL, TWO, TooGreat(power)) for power in range(7)], [False, True] + [False] * 5)
        self.assertEqual(good_signs(HALL, TWO, list(range(9))), TooGreat(1))

    def test_denials_of_good_signs(self):
        draw = random.Random(102)
        told = {True: 0, False: 0}
        while min(told.values()) < 20:
            web = drawn_web(draw, draw.randint(1, 7), 0.4)
            bound = drawn_bound(draw, web)
            found = within(mean_poly(web, [0] * len(web.ties)), bound)
            told[bool(found)] += 1
            for power in range(web.places + 1):
                check_same(self, shows_good_signs(web, bound, TooGreat(power)), not found and found.power == power)
            check_same(self, shows_good_signs(web, bound, good_signs(web, bound, list(range(len(web.ties))))), True)

    def test_bounds_just_at_the_greatest_root(self):
        for bound, plus, minus in ((TWO, True, True), (beside(TWO, 2, -1), False, True), (ONE, False, True), (beside(ONE, 2, -1), False, False)):
            for shows in BOTH:
                self.assertEqual([shows(TRIANGLE, bound, GoodSigns(signs)) for signs in ([1, 1, 1], [-1, -1, 1])], [plus, plus])
                self.assertEqual([shows(TRIANGLE, bound, GoodSigns(signs)) for signs in ([1, 1, -1], [-1, -1, -1])], [minus, minus])
        root = Bound(0, 1, 3)
        self.assertEqual([shows_good_signs(TRIANGLE, bound, TooGreat(0)) for bound in (root, beside(root, 3, 1), beside(root, 3, -1))],
                         [False, False, True])

    def test_signs_that_are_bent(self):
        web = Web(6, full(5))
        bound = Bound(5, 0, 0)
        for shows in BOTH:
            check_same(self, shows(web, bound, GoodSigns([1, -1] * 5)), True)
            for signs in no_signs(web, False):
                check_same(self, shows(web, bound, GoodSigns(signs)), False)
        for shows in BOTH:
            for signs in no_integers() + [0, [0], [1, 1]]:
                right = isinstance(signs, (list, tuple)) and len(signs) == 0
                check_same(self, shows(Web(2, []), TWO, GoodSigns(signs)), right)

    def test_powers_that_are_bent(self):
        self.assertTrue(shows_good_signs(TRIANGLE, ONE, TooGreat(0)))
        for power in no_integers() + [1, 2, 3, -1, [0], 10 ** 70]:
            check_same(self, shows_good_signs(TRIANGLE, ONE, TooGreat(power)), False)

    def test_other_values(self):
        others = no_integers() + [0, 1, (1, 1, -1), [1, 1, -1], Paper("goodsigns", [1, 1, -1]), Denial("toogreat", 0), SomeAbove(0),
                                  NoneAbove([]), GoodSigns, TooGreat, Strange()]
        for value in others + [NoSigns([1, 1])]:
            check_same(self, shows_good_signs(TRIANGLE, ONE, value), False)
        for value in others + [TooGreat(0), NoSigns([1, 1])]:
            check_same(self, shows_any_signs(TRIANGLE, ONE, value), False)
        for value in others + [GoodSigns([1, 1, -1])]:
            for shows in BOTH:
                check_same(self, shows(TRIANGLE, Bound(0, 0, 0), value), False)


class NoSignsPapers(unittest.TestCase):
    def test_drawn_webs(self):
        draw = random.Random(103)
        told = {True: 0, False: 0}
        while min(told.values()) < 15:
            web = drawn_web(draw, draw.randint(1, 6), 0.4)
            bound = drawn_bound(draw, web)
            found = any_signs(web, bound)
            told[bool(found)] += 1
            check_same(self, shows_any_signs(web, bound, found), True)
            if found:
                for powers in ([], [0], [1, 1], [0, 0]):
                    check_same(self, shows_any_signs(web, bound, NoSigns(powers)), False)

    def test_powers_that_are_bent(self):
        bound = beside(TWO, 2, -1)
        right = any_signs(HALL, bound).powers
        self.assertEqual(len(right), 16)
        check_same(self, shows_any_signs(HALL, bound, NoSigns(list(right))), True)
        for at in range(16):
            for power in (right[at] + 1, right[at] - 1, float(right[at]), None, str(right[at]), [right[at]], Strange()):
                powers = list(right)
                powers[at] = power
                check_same(self, shows_any_signs(HALL, bound, NoSigns(powers)), False)
            check_same(self, shows_any_signs(HALL, bound, NoSigns(right[:at] + right[at + 1:])), False)
        self.assertTrue(shows_any_signs(TRIANGLE, Bound(0, 0, 0), NoSigns((1, 1))))
        for powers in ((True, 1), (1, True), (1, 1.0), 1, "11", None, ((1, 1),), (1, 1, 1), {0: 1, 1: 1}, Strange()):
            check_same(self, shows_any_signs(TRIANGLE, Bound(0, 0, 0), NoSigns(powers)), False)

    def test_256_classes(self):
        web = Web(12, full(5) + ring_of(4, 5) + [(5, 7)])
        found = any_signs(web, ONE)
        self.assertEqual((bool(found), len(found.powers)), (False, 256))
        check_same(self, shows_any_signs(web, ONE, found), True)
        check_same(self, shows_any_signs(web, ONE, NoSigns(found.powers[:-1] + (found.powers[-1] + 1,))), False)


class Wrong(unittest.TestCase):
    def test_errors_in_their_order(self):
        for shows in BOTH:
            for value in no_kind(Web):
                check_raises(self, BadWeb("web"), shows, value, None, None)
            for bound in no_kind(Bound):
                check_raises(self, BadBound("bound"), shows, SQUARE, bound, None)
                check_raises(self, BadBound("bound"), shows, Web(60, full(60)), bound, GoodSigns([1]))

    def test_webs_that_are_too_great(self):
        for value in (None, GoodSigns([]), TooGreat(0), NoSigns([]), Strange()):
            for ties in ([], row_of(25), full(25)):
                check_raises(self, TooMany("places", 24), shows_good_signs, Web(25, ties), TWO, value)
            check_raises(self, TooMany("rings", 5000), shows_good_signs, Web(24, full(24)), TWO, value)
            check_raises(self, TooMany("rings", 5000), shows_good_signs, Web(8, full(8)), TWO, value)
            for ties in ([], row_of(13), full(13)):
                check_raises(self, TooMany("places", 12), shows_any_signs, Web(13, ties), TWO, value)
            check_raises(self, TooMany("classes", 256), shows_any_signs, Web(12, full(6)), TWO, value)
        # 24 places are few enough, and five places tied two by two have 64 classes.
        web = Web(24, ring_of(24))
        self.assertTrue(shows_good_signs(web, TWO, GoodSigns([1] * 24)))
        self.assertFalse(shows_any_signs(Web(12, full(5)), ONE, GoodSigns([1] * 10)))

    def test_what_is_passed_stays(self):
        paper = GoodSigns([1, 1, -1])
        for shows in BOTH:
            shows(TRIANGLE, ONE, paper)
        self.assertEqual((paper.signs, paper.parts), ((1, 1, -1), ((1, 1, -1),)))


if __name__ == "__main__":
    unittest.main()
