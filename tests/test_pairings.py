"""Pairings: their numbers and polys."""

import itertools
import math
import random
import unittest

from goodsigns.bounds import Bound
from goodsigns.errors import BadWeb, TooMany
from goodsigns.pairings import pairing_numbers, pairing_poly
from goodsigns.polys import Poly, derived, times
from goodsigns.reals import within
from goodsigns.signs import sign_poly
from goodsigns.webs import Web, pieces, without
from helpers import (across, bush_of, check_raises, drawn_signs, drawn_tree, drawn_web, full, no_kind, ring_of, row_of)


def numbers_by_sets(web):
    """The numbers of pairings, by all sets of ties."""
    found = [0] * (web.places + 1)
    for many in range(web.places // 2 + 1):
        for ties in itertools.combinations(web.ties, many):
            found[many] += len(set(sum(ties, ()))) == 2 * many
    return tuple(found[:max([many for many in range(len(found)) if found[many]]) + 1])


def numbers_tie_by_tie(ties):
    """The numbers of pairings of some ties, by whether the first one is taken."""
    if not ties:
        return [1]
    one, other = ties[0]
    left = numbers_tie_by_tie(ties[1:])
    taken = [0] + numbers_tie_by_tie([tie for tie in ties[1:] if one not in tie and other not in tie])
    return [mine + its for mine, its in itertools.zip_longest(left, taken, fillvalue=0)]


def poly_numbers(places, numbers):
    """The numbers of the pairing poly, from those of the pairings."""
    found = [0] * (places + 1)
    for size, number in enumerate(numbers):
        found[2 * size] = (-1) ** size * number
    return tuple(found)


def less(one, *others):
    """A poly less others, as numbers of the length of the first one."""
    found = list(one.numbers)
    for other in others:
        for at, number in enumerate(other.numbers):
            found[len(found) - len(other.numbers) + at] -= number
    return tuple(found)


class Pairings(unittest.TestCase):
    def check_numbers(self, web, wanted):
        found = pairing_numbers(web)
        self.assertEqual((type(found), found), (tuple, tuple(wanted)))
        poly = pairing_poly(web=web)
        self.assertEqual((type(poly), poly.numbers), (Poly, poly_numbers(web.places, wanted)))

    def test_by_sets(self):
        draw = random.Random(51)
        for _ in range(60):
            web = drawn_web(draw, draw.randint(1, 8), draw.choice([0, 0.2, 0.4, 0.7]))
            self.check_numbers(web, numbers_by_sets(web))
        self.assertEqual(pairing_numbers(web=Web(2, [(0, 1)])), (1, 1))

    def test_webs_of_16_places(self):
        draw = random.Random(52)
        for share in (0.1, 0.15, 0.2):
            web = drawn_web(draw, 16, share)
            self.check_numbers(web, numbers_tie_by_tie(list(web.ties)))
        # So many ways to choose 2 k places and to pair them.
        pairs = [math.comb(16, 2 * k) * math.prod(range(1, 2 * k, 2)) for k in range(9)]
        self.check_numbers(Web(16, full(16)), pairs)
        sides = [math.comb(8, k) ** 2 * math.factorial(k) for k in range(9)]
        self.check_numbers(Web(16, across(8, 8)), sides)
        sides = [math.comb(2, k) * math.comb(14, k) * math.factorial(k) for k in range(3)]
        self.check_numbers(Web(16, across(2, 14)), sides)

    def test_webs_of_17_places(self):
        for ties in (ring_of(17), ring_of(3), ring_of(3, 14), full(17), row_of(17) + [(0, 16)], row_of(17) + [(15, 13)]):
            for function in (pairing_numbers, pairing_poly):
                check_raises(self, TooMany("places", 16), function, Web(17, ties))
        check_raises(self, TooMany("places", 16), pairing_poly, Web(60, full(60)))
        check_raises(self, TooMany("places", 16), pairing_poly, Web(60, ring_of(4, 56)))
        self.check_numbers(Web(17, []), [1])
        self.check_numbers(Web(17, row_of(17)), [math.comb(17 - k, k) for k in range(9)])

    def test_rings_and_rows(self):
        for places in range(3, 17):
            wanted = [places * math.comb(places - k, k) // (places - k) for k in range(places // 2 + 1)]
            self.check_numbers(Web(places, ring_of(places)), wanted)
        for places in (1, 2, 3, 16, 17, 31, 59, 60):
            self.check_numbers(Web(places, row_of(places)), [math.comb(places - k, k) for k in range(places // 2 + 1)])

    def test_bushes(self):
        draw = random.Random(53)
        for branches in (1, 2, 3, 8):
            for places in (9, 22):
                web = Web(places, bush_of(places, branches))
                self.check_numbers(web, numbers_tie_by_tie(list(web.ties)))
        for _ in range(10):
            web = drawn_tree(draw, draw.randint(2, 22))
            self.check_numbers(web, numbers_tie_by_tie(list(web.ties)))
        self.check_numbers(Web(60, bush_of(60, 59)), [1, 59])
        # A bush whose 29 branches have two places each: 29 pairs, or one place of the foot and 28 pairs at the most.
        web = Web(59, [(0, at) for at in range(1, 30)] + [(at, at + 29) for at in range(1, 30)])
        wanted = [math.comb(29, k) + (29 * math.comb(28, k - 1) if k else 0) for k in range(30)]
        self.check_numbers(web, wanted)

    def test_great_bushes_by_their_polys(self):
        # Of a web without a ring the pairing poly is that of any signs; 24 places are the most there.
        draw = random.Random(54)
        for _ in range(20):
            web = drawn_tree(draw, 24)
            self.assertEqual(pairing_poly(web), sign_poly(web, drawn_signs(draw, web)))
        for branches in (2, 3, 4):
            web = Web(60, bush_of(60, branches))
            last = Web(59, bush_of(59, branches))
            gone = without(web, [(59 - 1) // branches, 59])
            self.assertEqual(pairing_poly(web).numbers, less(times(Poly([1, 0]), pairing_poly(last)), pairing_poly(gone)))

    def test_pieces(self):
        draw = random.Random(55)
        for _ in range(30):
            web = drawn_web(draw, draw.randint(2, 12), 0.12)
            found = Poly([1])
            for piece in pieces(web):
                found = times(found, pairing_poly(without(web, [place for place in range(web.places) if place not in piece])))
            self.assertEqual(pairing_poly(web), found)
        wanted = Poly([1])
        for _ in range(20):
            wanted = times(wanted, Poly([1, 0, -2, 0]))
        self.assertEqual(pairing_poly(Web(60, [tie for at in range(20) for tie in row_of(3, 3 * at)])), wanted)
        self.assertEqual(pairing_numbers(Web(60, [(at, at + 30) for at in range(30)])), tuple([math.comb(30, k) for k in range(31)]))
        self.assertEqual((pairing_numbers(Web(60, [])), pairing_poly(Web(60, [])).numbers), ((1,), (1,) + (0,) * 60))

    def test_rules_of_the_facts(self):
        draw = random.Random(56)
        for _ in range(20):
            web = drawn_web(draw, draw.randint(3, 9), 0.5)
            found = pairing_poly(web)
            place = draw.randrange(web.places)
            rest = [pairing_poly(without(web, [place, near])) for near in web.neighbours(place)]
            self.assertEqual(found.numbers, less(times(Poly([1, 0]), pairing_poly(without(web, [place]))), *rest))
            for tie in web.ties:
                fewer = Web(web.places, [each for each in web.ties if each != tie])
                self.assertEqual(found.numbers, less(pairing_poly(fewer), pairing_poly(without(web, tie))))
            rows = [pairing_poly(without(web, [each])).numbers for each in range(web.places)]
            self.assertEqual(derived(found).numbers, tuple([sum(numbers) for numbers in zip(*rows)]))
            if web.most >= 2:
                self.assertTrue(within(found, Bound(0, 2, web.most - 1)))

    def test_wrong_webs(self):
        for value in no_kind(Web):
            check_raises(self, BadWeb("web"), pairing_numbers, value)
            check_raises(self, BadWeb("web"), pairing_poly, value)


if __name__ == "__main__":
    unittest.main()
