"""Means of signs, and webs with too many rings for them."""

import itertools
import math
import random
import unittest

from goodsigns.bounds import Bound
from goodsigns.errors import BadSigns, BadWeb, TooMany
from goodsigns.means import mean_poly
from goodsigns.pairings import pairing_poly
from goodsigns.polys import Poly, derived, mixed, times
from goodsigns.reals import all_real, within
from goodsigns.rings import has_more_rings
from goodsigns.signs import sign_poly, signs_without, turned_about
from goodsigns.webs import Web, pieces, without
from helpers import (across, bush_of, check_raises, drawn_signs, drawn_tree, drawn_web, full, mean_numbers_by_signs,
                     no_kind, no_signs, numbers_of_signs, ring_of, rings_of, row_of)

# Webs of 9 and of 10 places with so many rings; seven places tied two by two have 1172.
RINGS_3828 = "9 : 0 2 0 3 0 4 0 6 0 8 1 2 1 3 1 4 1 5 1 7 1 8 2 3 2 4 3 4 3 5 3 6 3 7 4 5 4 6 4 7 4 8 5 6 5 7 6 7 6 8 7 8"
RINGS_4999 = "10 : 0 1 0 4 0 5 0 6 0 8 1 3 1 4 1 5 1 6 1 7 1 8 2 4 2 6 2 7 2 8 2 9 3 4 3 6 3 8 4 6 4 8 4 9 5 6 5 7 5 8 6 7 6 9 7 8"
RINGS_5001 = "10 : 0 1 0 2 0 3 0 4 0 6 0 7 0 9 1 3 1 7 1 9 2 3 2 5 2 7 2 8 3 5 3 6 4 5 4 6 4 7 4 8 4 9 5 6 5 7 5 8 5 9 7 8 8 9"
PIECES = list(Web.read(RINGS_3828).ties) + full(7, 9)


def ladder(steps):
    """The ties of two rings of so many places, each tied to its like in the other one."""
    return ring_of(steps) + ring_of(steps, steps) + [(at, at + steps) for at in range(steps)]


def some_free(draw, web, many):
    """Signs of a web with so many free ties, or as many as there are."""
    signs = [draw.choice((1, -1)) for _ in web.ties]
    for tie in draw.sample(range(len(web.ties)), min(many, len(web.ties))):
        signs[tie] = 0
    return signs


class Means(unittest.TestCase):
    def check_mean(self, web, signs):
        kept = list(signs)
        found = mean_poly(web, signs)
        self.assertIs(type(found), Poly)
        self.assertEqual(found.numbers, mean_numbers_by_signs(web, signs))
        self.assertEqual(list(signs), kept)

    def test_by_all_signs(self):
        draw = random.Random(71)
        for _ in range(60):
            web = drawn_web(draw, draw.randint(1, 7), draw.choice([0.2, 0.4, 0.6, 1]))
            for many in (0, 1, 2, 5, draw.randint(0, 8)):
                signs = some_free(draw, web, many)
                self.check_mean(web, signs)
                self.assertEqual(mean_poly(web=web, signs=tuple(signs)), mean_poly(web, signs))

    def test_all_free(self):
        draw = random.Random(72)
        for _ in range(20):
            web = drawn_web(draw, draw.randint(1, 12), 0.3)
            self.assertEqual(mean_poly(web, [0] * len(web.ties)), pairing_poly(web))
        for web in (drawn_tree(draw, 24), Web(24, []), Web(24, bush_of(24, 3))):
            self.assertEqual(mean_poly(web, [0] * len(web.ties)), pairing_poly(web))

    def test_all_free_in_a_ladder(self):
        # Pairings have a tie or they have not: so this can be told of webs of more than 16 places, too.
        web = Web(24, ladder(12))
        tie = web.ties[-1]
        fewer = Web(24, web.ties[:-1])
        gone = without(web, tie)
        numbers = [mean_poly(each, [0] * len(each.ties)).numbers for each in (web, fewer, gone)]
        self.assertEqual(numbers[0], tuple([mine - its for mine, its in zip(numbers[1], (0, 0) + numbers[2])]))
        self.assertEqual(numbers[0][2], -36)

    def test_none_free(self):
        draw = random.Random(73)
        webs = [Web(24, ladder(12)), Web(24, across(3, 17) + row_of(5, 19)), Web(24, across(2, 22)), Web(16, PIECES),
                Web(24, PIECES + [(0, 15)] + row_of(9, 15)), drawn_tree(draw, 24), Web(24, ring_of(24)), Web(24, []),
                Web(24, ring_of(12) + ring_of(12, 12))]
        for web in webs:
            signs = drawn_signs(draw, web)
            self.assertEqual(mean_poly(web, signs), sign_poly(web, signs))
            self.assertEqual(mean_poly(web, signs).numbers, numbers_of_signs(web, signs))

    def test_a_few_free_in_great_webs(self):
        draw = random.Random(74)
        for ties in (ladder(12), across(3, 17), PIECES + [(4, 12)], ring_of(24), across(2, 22)):
            web = Web(1 + max([max(tie) for tie in ties]), ties)
            for many in (1, 2, 3):
                self.check_mean(web, some_free(draw, web, many))

    def test_half_the_sum_of_the_next_means(self):
        draw = random.Random(75)
        webs = [Web(24, ladder(12)), Web(24, PIECES + [(0, 15)] + row_of(9, 15)), Web(20, across(3, 17))]
        webs += [drawn_web(draw, draw.randint(2, 10), 0.4) for _ in range(20)]
        for web in webs:
            signs = some_free(draw, web, len(web.ties) // 2)
            mean = mean_poly(web, signs)
            for tie in [tie for tie, sign in enumerate(signs) if sign == 0][:4]:
                nexts = [mean_poly(web, signs[:tie] + [sign] + signs[tie + 1:]) for sign in (1, -1)]
                self.assertEqual(mixed(nexts[0], nexts[1], 1, 1).numbers, tuple([2 * number for number in mean.numbers]))

    def test_derived_and_turned_about(self):
        draw = random.Random(76)
        for _ in range(20):
            web = drawn_web(draw, draw.randint(2, 9), 0.5)
            signs = drawn_signs(draw, web, (0, 0, 1, -1))
            mean = mean_poly(web, signs)
            rows = [mean_poly(without(web, [place]), signs_without(web, signs, [place])).numbers for place in range(web.places)]
            self.assertEqual(derived(mean).numbers, tuple([sum(numbers) for numbers in zip(*rows)]))
            for place in range(web.places):
                self.assertEqual(mean_poly(web, turned_about(web, signs, place)), mean)

    def test_pieces(self):
        draw = random.Random(77)
        for _ in range(20):
            web = drawn_web(draw, draw.randint(2, 12), 0.15)
            signs = drawn_signs(draw, web, (0, 1, -1))
            found = Poly([1])
            for piece in pieces(web):
                gone = [place for place in range(web.places) if place not in piece]
                found = times(found, mean_poly(without(web, gone), signs_without(web, signs, gone)))
            self.assertEqual(mean_poly(web, signs), found)

    def test_rings(self):
        # Of a ring with all ties set the mean is the pairing poly less twice the product; of one with a free tie it is this poly.
        for places in range(3, 25):
            web = Web(places, ring_of(places))
            wanted = [0] * (places + 1)
            for k in range(places // 2 + 1):
                wanted[2 * k] = (-1) ** k * places * math.comb(places - k, k) // (places - k)
            signs = [-1] + [1] * (places - 1)
            self.assertEqual(mean_poly(web, [0] + signs[1:]).numbers, tuple(wanted))
            self.assertEqual(mean_poly(web, signs).numbers, tuple(wanted[:-1] + [wanted[-1] + 2]))
            self.assertEqual(mean_poly(web, [1] * places).numbers, tuple(wanted[:-1] + [wanted[-1] - 2]))

    def test_two_rings_that_share_a_place_or_a_tie(self):
        draw = random.Random(78)
        for ties in (ring_of(4) + [(0, 4), (4, 5), (0, 5)], ring_of(5) + [(0, 2)], ring_of(3) + ring_of(4, 3), ring_of(6) + [(0, 3)]):
            web = Web(1 + max([max(tie) for tie in ties]), ties)
            for signs in itertools.product((0, 1, -1), repeat=len(web.ties)):
                if draw.random() < 0.05:
                    self.check_mean(web, signs)

    def test_roots(self):
        draw = random.Random(79)
        for _ in range(15):
            web = drawn_web(draw, draw.randint(2, 9), 0.5)
            mean = mean_poly(web, drawn_signs(draw, web, (0, 1, -1)))
            self.assertTrue(all_real(mean))
            self.assertTrue(within(mean, Bound(max(web.most, 1), 0, 0)))


class Rings(unittest.TestCase):
    def check_rings(self, web, many):
        self.assertIs(has_more_rings(web, many), False)
        if many:
            self.assertIs(has_more_rings(web, many - 1), True)

    def test_drawn_webs(self):
        draw = random.Random(81)
        for _ in range(60):
            web = drawn_web(draw, draw.randint(1, 8), draw.choice([0.2, 0.4, 0.6]))
            self.check_rings(web, len(rings_of(web)))

    def test_known_webs(self):
        for places in range(3, 8):
            many = sum([math.comb(places, k) * math.factorial(k - 1) // 2 for k in range(3, places + 1)])
            self.check_rings(Web(places, full(places)), many)
        for one, other in ((2, 22), (3, 4), (3, 17), (4, 5), (5, 5)):
            many = sum([math.comb(one, k) * math.comb(other, k) * math.factorial(k) * math.factorial(k - 1) // 2
                        for k in range(2, one + 1)])
            self.check_rings(Web(one + other, across(one, other)), many)
        self.check_rings(Web(24, ladder(12)), 2 ** 12 + 12 * 11)
        self.check_rings(Web(24, ring_of(24)), 1)
        self.assertEqual([len(rings_of(Web.read(text))) for text in (RINGS_3828, RINGS_4999, RINGS_5001)], [3828, 4999, 5001])

    def test_just_5000_rings_and_more(self):
        draw = random.Random(82)
        ends, ring = [(0, 15)] + row_of(8, 15), [(22, 23), (21, 23)]
        # Of several pieces, of one piece; and with one ring more.
        for ties, places in ((PIECES, 16), (PIECES, 24), (PIECES + ends + [(22, 23)], 24)):
            web = Web(places, ties)
            self.check_rings(web, 5000)
            for many in (0, 2):
                signs = some_free(draw, web, many)
                self.assertEqual(mean_poly(web, signs).numbers, mean_numbers_by_signs(web, signs))
        for ties in (PIECES + ring_of(3, 16), PIECES + ends + ring, PIECES + ring_of(8, 16)):
            web = Web(24, ties)
            self.check_rings(web, 5001)
            for signs in ([0] * len(ties), [1] * len(ties), some_free(draw, web, 3)):
                check_raises(self, TooMany("rings", 5000), mean_poly, web, signs)
        for text, error in ((RINGS_4999, None), (RINGS_5001, TooMany("rings", 5000))):
            web = Web.read(text)
            great = Web(24, list(web.ties) + row_of(15, 9))
            for each in (web, great):
                signs = drawn_signs(draw, each)
                if error:
                    check_raises(self, error, mean_poly, each, signs)
                else:
                    self.assertEqual(mean_poly(each, signs), sign_poly(each, signs))

    def test_very_many_rings(self):
        for ties in (full(24), across(12, 12), full(12) + full(12, 12), full(8), ladder(12) + [(0, 13), (5, 18)], full(23),
                     [(one, other) for one in range(24) for other in range(one + 1, min(one + 4, 24))],
                     row_of(24) + full(9), row_of(24) + full(9, 15)):
            web = Web(24, sorted(set([(min(tie), max(tie)) for tie in ties])))
            for signs in ([0] * len(web.ties), [1] * len(web.ties)):
                check_raises(self, TooMany("rings", 5000), mean_poly, web, signs)


class Wrong(unittest.TestCase):
    def test_errors_in_their_order(self):
        for value in no_kind(Web):
            check_raises(self, BadWeb("web"), mean_poly, value, None)
        square, great = Web(4, ring_of(4)), Web(25, full(25))
        for signs in no_signs(square, True):
            check_raises(self, BadSigns("signs"), mean_poly, square, signs)
        for signs in ([1, 2, 3], [True] * 300, [0] * 299, [0] * 301, None):
            check_raises(self, BadSigns("signs"), mean_poly, great, signs)
        check_raises(self, TooMany("places", 24), mean_poly, great, [0] * 300)
        check_raises(self, TooMany("places", 24), mean_poly, Web(60, full(60)), [1] * 1770)
        check_raises(self, TooMany("places", 24), mean_poly, Web(25, row_of(25)), [1] * 24)
        self.assertEqual(mean_poly(Web(24, []), []).numbers, (1,) + (0,) * 24)

    def test_what_is_passed_stays(self):
        signs = [0, 1, -1, 1]
        mean_poly(Web(4, ring_of(4)), signs)
        self.assertEqual(signs, [0, 1, -1, 1])


if __name__ == "__main__":
    unittest.main()
