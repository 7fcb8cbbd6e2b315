"""Covers, and whether two of them are alike."""

import itertools
import random
import unittest

from goodsigns.covers import AlikeCovers, UnlikeCovers, alike_covers, cover, shows_alike_covers
from goodsigns.errors import BadSigns, BadWeb, TooMany
from goodsigns.papers import Denial, Paper
from goodsigns.polys import times
from goodsigns.signs import sign_poly, turned_about
from goodsigns.webs import Web, is_joined, two_sides
from helpers import (Strange, across, all_signs, along, bush_of, check_raises, check_same, drawn_signs, drawn_web, full,
                     no_integers, no_kind, no_signs, reached, ring_of, rings_of, row_of, turned_rings)

TRIANGLE, SQUARE = Web(3, ring_of(3)), Web(4, ring_of(4))


def exchanged(web, covering, places):
    """A cover of a web once both copies are exchanged at some places."""
    anew = {}
    for place in range(web.places):
        copies = (place, place + web.places)
        anew.update(zip(copies, copies[::-1] if place in places else copies))
    return Web(covering.places, [(anew[one], anew[other]) for one, other in covering.ties])


def exchanges(web, one, other):
    """All sets of places by whose exchange the one cover becomes the other."""
    first, second = cover(web, one), cover(web, other)
    rows = [places for many in range(web.places + 1) for places in itertools.combinations(range(web.places), many)]
    return [places for places in rows if exchanged(web, first, places) == second]


def unlike_rings(web, one, other):
    """All rings along which the products are unlike, from each place and either way round."""
    rings = [ring for ring in rings_of(web) if along(web, one, ring) != along(web, other, ring)]
    return sorted([each for ring in rings for each in turned_rings(ring)])


class Covers(unittest.TestCase):
    def test_ties(self):
        draw = random.Random(111)
        for _ in range(40):
            web = drawn_web(draw, draw.randint(1, 8), 0.5)
            signs, many = drawn_signs(draw, web), web.places
            found = cover(web=web, signs=signs)
            self.assertEqual((type(found), found.places, len(found.ties)), (Web, 2 * many, 2 * len(web.ties)))
            for place in range(many):
                for copy, its in ((place, 0), (place + many, many)):
                    told = [(near, sign) for tie, sign in zip(web.ties, signs) if place in tie for near in tie if near != place]
                    wanted = [near + (its if sign == 1 else many - its) for near, sign in told]
                    self.assertEqual(found.neighbours(copy), tuple(sorted(wanted)))

    def test_webs_of_30_places_and_31(self):
        draw = random.Random(112)
        for ties in ([], full(30), ring_of(30), across(15, 15)):
            web = Web(30, ties)
            found = cover(web, drawn_signs(draw, web))
            self.assertEqual((found.places, found.most), (60, web.most))
            check_raises(self, TooMany("places", 60), cover, Web(31, ties), [1] * len(ties))
        check_raises(self, TooMany("places", 60), cover, Web(60, full(60)), [1] * 1770)
        self.assertEqual(cover(Web(1, []), ()), Web(2, []))

    def test_the_roots_are_those_of_the_web_and_of_the_signs(self):
        draw = random.Random(113)
        for places in (1, 4, 7, 12):
            for _ in range(4):
                web = drawn_web(draw, places, 0.4)
                signs, ones = drawn_signs(draw, web), [1] * len(web.ties)
                found = cover(web, signs)
                self.assertEqual(sign_poly(found, [1] * len(found.ties)), times(sign_poly(web, ones), sign_poly(web, signs)))

    def test_joined_covers_and_two_sides(self):
        draw = random.Random(114)
        for _ in range(60):
            web = drawn_web(draw, draw.randint(1, 7), 0.5)
            signs = drawn_signs(draw, web)
            if is_joined(web):
                self.assertEqual(is_joined(cover(web, signs)), any([along(web, signs, ring) == -1 for ring in rings_of(web)]))
            if two_sides(web):
                self.assertTrue(two_sides(cover(web, signs)))
        for places in range(3, 10):
            web = Web(places, ring_of(places))
            self.assertEqual(len({reached(cover(web, [1] * places), place) for place in range(2 * places)}), 2)
            self.assertEqual(cover(web, [1] * (places - 1) + [-1]).most, 2)
            self.assertTrue(is_joined(cover(web, [1] * (places - 1) + [-1])))

    def test_turned_about(self):
        draw = random.Random(115)
        for _ in range(20):
            web = drawn_web(draw, draw.randint(1, 7), 0.5)
            signs = drawn_signs(draw, web)
            for place in range(web.places):
                self.assertEqual(cover(web, turned_about(web, signs, place)), exchanged(web, cover(web, signs), [place]))

    def test_wrong_arguments_in_their_order(self):
        for value in no_kind(Web):
            check_raises(self, BadWeb("web"), cover, value, None)
        for web in (SQUARE, Web(31, [(0, 1), (1, 2), (2, 3)])):
            for signs in no_signs(web, False):
                check_raises(self, BadSigns("signs"), cover, web, signs)

    def test_what_is_passed_stays(self):
        signs, other = [1, 1, -1], [1, 1, 1]
        cover(TRIANGLE, signs)
        alike_covers(TRIANGLE, signs, other)
        self.assertEqual((signs, other), ([1, 1, -1], [1, 1, 1]))


class AlikeCoversOfWebs(unittest.TestCase):
    def check_alike(self, web, one, other):
        found = alike_covers(web, one, other)
        told, rings = exchanges(web, one, other), unlike_rings(web, one, other)
        self.assertEqual(bool(told), not rings)
        if told:
            firsts = {reached(web, place)[0] for place in range(web.places)}
            self.assertEqual([places for places in told if not firsts & set(places)], [found.places])
            self.assertEqual(found, AlikeCovers(found.places))
        else:
            self.assertIn(found.ring, rings)
            self.assertEqual(found, UnlikeCovers(found.ring))
        self.assertIs(bool(found), bool(told))
        self.assertEqual(alike_covers(web=web, one=tuple(one), other=list(other)), found)
        check_same(self, shows_alike_covers(web, one, other, found), True)
        return bool(found)

    def test_drawn_webs(self):
        draw = random.Random(116)
        told = {True: 0, False: 0}
        while min(told.values()) < 30:
            web = drawn_web(draw, draw.randint(1, 7), draw.choice([0.2, 0.4, 0.6]))
            one, other = drawn_signs(draw, web), drawn_signs(draw, web)
            if draw.random() < 0.5:
                other = one
                for place in draw.sample(range(web.places), draw.randint(0, web.places)):
                    other = turned_about(web, other, place)
            told[self.check_alike(web, one, other)] += 1

    def test_as_many_kinds_as_the_facts_tell(self):
        for ties, places in ((ring_of(4) + [(0, 2)], 5), (full(4), 4), (ring_of(3) + ring_of(3, 3), 6)):
            web = Web(places, ties)
            kinds = []
            for signs in all_signs(web):
                if not any([alike_covers(web, signs, kind) for kind in kinds]):
                    kinds.append(signs)
            many = len({reached(web, place) for place in range(places)})
            self.assertEqual(len(kinds), 2 ** (len(ties) - places + many))

    def test_great_webs(self):
        draw = random.Random(117)
        for ties in (full(60), ring_of(60), ring_of(59), bush_of(60, 3), across(30, 30), ring_of(30) + ring_of(30, 30), []):
            web = Web(60, ties)
            one = drawn_signs(draw, web)
            other, turned = one, []
            for place in draw.sample(range(60), 25):
                other = turned_about(web, other, place)
                turned.append(place)
            found = alike_covers(web, one, other)
            firsts = {reached(web, place) for place in range(60)}
            wanted = [place for piece in firsts for place in piece if (place in turned) != (piece[0] in turned)]
            self.assertEqual(found.places, tuple(sorted(wanted)))
            # The last tie is on a ring of each of these webs, but of the bush.
            bent = list(other)
            if bent:
                bent[-1] = -bent[-1]
                found = alike_covers(web, one, bent)
                self.assertEqual(bool(found), ties == bush_of(60, 3))
                check_same(self, shows_alike_covers(web, one, bent, found), True)

    def test_webs_without_a_ring(self):
        web = Web(6, row_of(3) + row_of(3, 3))
        for one, other in itertools.product(all_signs(web), repeat=2):
            self.assertTrue(alike_covers(web, one, other))
        self.assertEqual(alike_covers(web, [1, 1, 1, 1], [-1, 1, 1, -1]).places, (1, 2, 5))
        self.assertEqual(alike_covers(Web(60, []), [], ()), AlikeCovers([]))

    def test_every_unlike_ring_is_right_and_nothing_else(self):
        web = Web(6, ring_of(5) + [(0, 2), (3, 5)])
        one, other = [1] * 7, [1, 1, -1, 1, 1, 1, 1]
        right = unlike_rings(web, one, other)
        self.assertTrue(right)
        for many in range(7):
            for ring in itertools.permutations(range(6), many):
                check_same(self, shows_alike_covers(web, one, other, UnlikeCovers(list(ring))), ring in right)
        some = right[0]
        check_same(self, shows_alike_covers(value=UnlikeCovers(some), other=other, one=one, web=web), True)
        for at in range(len(some)):
            for value in no_integers() + [6, -1, 10 ** 70, [some[at]], float(some[at]), Strange()]:
                check_same(self, shows_alike_covers(web, one, other, UnlikeCovers(some[:at] + (value,) + some[at + 1:])), False)
        for ring in (some + some, some + some[:1], some[:-1], (some,), None, 3, "012", {0: 1, 1: 2, 2: 0}, Strange(), True):
            check_same(self, shows_alike_covers(web, one, other, UnlikeCovers(ring)), False)

    def test_places_that_are_bent(self):
        web = Web(7, ring_of(4) + ring_of(3, 4))
        one = [1] * 7
        other = turned_about(web, turned_about(web, one, 2), 5)
        self.assertEqual(alike_covers(web, one, other).places, (2, 5))
        for many in range(8):
            for places in itertools.permutations(range(7), many):
                check_same(self, shows_alike_covers(web, one, other, AlikeCovers(list(places))), places == (2, 5))
        for at, places in itertools.product(range(2), no_integers() + [2.0, 5.0, [2], -5]):
            bent = [2, 5]
            bent[at] = places
            check_same(self, shows_alike_covers(web, one, other, AlikeCovers(bent)), False)
        for places in (None, 2, "25", {2: 5}, ((2, 5),), Strange(), True, [2, 5, 5], [2, 2, 5]):
            check_same(self, shows_alike_covers(web, one, other, AlikeCovers(places)), False)
        check_same(self, shows_alike_covers(web, one, other, UnlikeCovers([0, 1, 2, 3])), False)
        unlike = [-1] + list(other)[1:]
        for places in ([], [2, 5], [1]):
            check_same(self, shows_alike_covers(web, one, unlike, AlikeCovers(places)), False)

    def test_other_values(self):
        for other in ([1, 1, 1], [1, 1, -1]):
            for value in no_integers() + [0, [], (0, 1, 2), Paper("alikecovers", []), Denial("unlikecovers", [0, 1, 2]), AlikeCovers,
                                          UnlikeCovers, Strange()]:
                check_same(self, shows_alike_covers(TRIANGLE, [1, 1, 1], other, value), False)

    def test_papers(self):
        self.assertEqual((AlikeCovers([1]).word, UnlikeCovers(ring=[1]).word), ("alikecovers", "unlikecovers"))
        self.assertEqual((AlikeCovers(places=[1]).parts, UnlikeCovers([0, [1]]).ring), (((1,),), (0, (1,))))
        self.assertEqual((AlikeCovers.__bases__, UnlikeCovers.__bases__), ((Paper,), (Denial,)))

    def test_wrong_arguments_in_their_order(self):
        for value in no_kind(Web):
            check_raises(self, BadWeb("web"), alike_covers, value, None, None)
            check_raises(self, BadWeb("web"), shows_alike_covers, value, None, None, AlikeCovers([]))
        good = [1, -1, 1, 1]
        for signs in no_signs(SQUARE, False):
            check_raises(self, BadSigns("one"), alike_covers, SQUARE, signs, None)
            check_raises(self, BadSigns("other"), alike_covers, SQUARE, good, signs)
            check_raises(self, BadSigns("one"), shows_alike_covers, SQUARE, signs, signs, None)
            check_raises(self, BadSigns("other"), shows_alike_covers, SQUARE, good, signs, UnlikeCovers([0, 1, 2, 3]))


if __name__ == "__main__":
    unittest.main()
