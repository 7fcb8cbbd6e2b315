"""Signs, their tables and polys, signs turned about, places left out."""

import itertools
import random
import unittest

from goodsigns.errors import BadNumber, BadSigns, BadWeb, Misfit, NoPlace, TooMany, Twice
from goodsigns.polys import Poly, derived, times
from goodsigns.reals import all_real
from goodsigns.signs import need_signs, sign_poly, signs_without, table_of, turned_about
from goodsigns.webs import Web, pieces, two_sides, without
from helpers import (Strange, across, all_signs, along, check_raises, check_same, drawn_signs, drawn_web, full,
                     no_integer_lists, no_integers, no_kind, no_signs, numbers_of_signs, ring_of, rings_of, row_of)

SQUARE = Web(4, ring_of(4))


class NeedSigns(unittest.TestCase):
    def test_signs(self):
        for signs in ([1, -1, 1, -1], (1, 1, 1, 1)):
            for is_free in (True, False):
                check_same(self, need_signs(SQUARE, signs, is_free), tuple(signs))
        check_same(self, need_signs(is_free=True, signs=[0, 1, -1, 0], web=SQUARE), (0, 1, -1, 0))
        for signs in ([], ()):
            for is_free in (True, False):
                check_same(self, need_signs(Web(60, []), signs, is_free), ())
        check_same(self, need_signs(Web(60, full(60)), [1] * 1770, False), (1,) * 1770)

    def test_no_signs(self):
        for is_free in (True, False):
            for signs in no_signs(SQUARE, is_free):
                check_raises(self, BadSigns("signs"), need_signs, SQUARE, signs, is_free)
        check_raises(self, BadSigns("signs"), need_signs, SQUARE, [0, 0, 0, 0], False)
        for signs in ([1], [0], (1,), None, {}, "", 0):
            check_raises(self, BadSigns("signs"), need_signs, Web(5, []), signs, True)

    def test_the_web_comes_first(self):
        for web in no_kind(Web):
            for function in (table_of, sign_poly):
                check_raises(self, BadWeb("web"), function, web, None)
            for function in (need_signs, turned_about, signs_without):
                check_raises(self, BadWeb("web"), function, web, None, None)

    def test_signs_come_ahead_of_what_is_behind(self):
        for signs in no_signs(SQUARE, True):
            check_raises(self, BadSigns("signs"), turned_about, SQUARE, signs, 9)
            check_raises(self, BadSigns("signs"), signs_without, SQUARE, signs, None)
            check_raises(self, BadSigns("signs"), table_of, SQUARE, signs)
        great = Web(25, [(0, 1), (2, 3), (4, 5)])
        for signs in no_signs(great, False):
            check_raises(self, BadSigns("signs"), sign_poly, great, signs)
        check_raises(self, TooMany("places", 24), sign_poly, great, [1, 1, -1])


class TablesOfSigns(unittest.TestCase):
    def test_tables(self):
        draw = random.Random(41)
        for _ in range(40):
            web = drawn_web(draw, draw.randint(1, 9), draw.random())
            signs = drawn_signs(draw, web, (0, 1, -1))
            kept = list(signs)
            rows = table_of(web=web, signs=signs)
            self.assertEqual((type(rows), {type(row) for row in rows}), (tuple, {tuple}))
            self.assertEqual(list(signs), kept)
            for i, j in itertools.product(range(web.places), repeat=2):
                tie = (min(i, j), max(i, j))
                self.assertEqual(rows[i][j], signs[web.ties.index(tie)] if tie in web.ties else 0)
        self.assertEqual(table_of(Web(60, []), ()), ((0,) * 60,) * 60)

    def test_polys(self):
        draw = random.Random(42)
        for _ in range(40):
            web = drawn_web(draw, draw.randint(1, 9), draw.random())
            signs = drawn_signs(draw, web)
            found = sign_poly(web=web, signs=signs)
            self.assertIs(type(found), Poly)
            self.assertEqual(found.numbers, numbers_of_signs(web, signs))
            self.assertTrue(all_real(found))

    def test_webs_of_24_places_and_25(self):
        draw = random.Random(43)
        for ties in ([], row_of(24), ring_of(24), across(12, 12), full(24)):
            web = Web(24, ties)
            signs = drawn_signs(draw, web)
            self.assertEqual(sign_poly(web, signs).numbers, numbers_of_signs(web, signs))
            check_raises(self, TooMany("places", 24), sign_poly, Web(25, ties), signs)
        check_raises(self, TooMany("places", 24), sign_poly, Web(60, full(60)), [1] * 1770)

    def test_webs_without_ties(self):
        for places in (1, 2, 24):
            self.assertEqual(sign_poly(Web(places, []), []).numbers, (1,) + (0,) * places)

    def test_first_numbers(self):
        draw = random.Random(44)
        for _ in range(30):
            web = drawn_web(draw, draw.randint(3, 9), 0.6)
            signs = drawn_signs(draw, web)
            threes = sum([along(web, signs, ring) for ring in rings_of(web) if len(ring) == 3])
            self.assertEqual(sign_poly(web, signs).numbers[:4], (1, 0, -len(web.ties), -2 * threes))

    def test_pieces_and_derived(self):
        draw = random.Random(45)
        for _ in range(30):
            web = drawn_web(draw, draw.randint(2, 8), draw.choice([0.1, 0.3, 0.6]))
            signs = drawn_signs(draw, web)
            found = Poly([1])
            for piece in pieces(web):
                gone = [place for place in range(web.places) if place not in piece]
                found = times(found, sign_poly(without(web, gone), signs_without(web, signs, gone)))
            self.assertEqual(sign_poly(web, signs), found)
            rows = [sign_poly(without(web, [place]), signs_without(web, signs, [place])).numbers for place in range(web.places)]
            self.assertEqual(derived(found).numbers, tuple([sum(numbers) for numbers in zip(*rows)]))

    def test_two_sides_and_odd_rings(self):
        draw = random.Random(46)
        for _ in range(60):
            web = drawn_web(draw, draw.randint(3, 8), draw.choice([0.3, 0.5]))
            if two_sides(web):
                for _ in range(5):
                    self.assertFalse(any(sign_poly(web, drawn_signs(draw, web)).numbers[1::2]))
            else:
                self.assertTrue(any(sign_poly(web, [1] * len(web.ties)).numbers[1::2]))


class TurnedAbout(unittest.TestCase):
    def test_each_place(self):
        draw = random.Random(47)
        for _ in range(20):
            web = drawn_web(draw, draw.randint(1, 7), 0.6)
            signs = drawn_signs(draw, web)
            rings = rings_of(web)
            for place in range(web.places):
                found = turned_about(web=web, signs=signs, place=place)
                wanted = tuple([-sign if place in tie else sign for tie, sign in zip(web.ties, signs)])
                check_same(self, found, wanted)
                self.assertEqual(sign_poly(web, found), sign_poly(web, signs))
                self.assertEqual([along(web, found, ring) for ring in rings], [along(web, signs, ring) for ring in rings])
                self.assertEqual(turned_about(web, found, place), tuple(signs))

    def test_free_ties_stay_free(self):
        signs = [0, 1, -1, 0]
        found = [turned_about(SQUARE, signs, place) for place in range(4)]
        self.assertEqual(found, [(0, -1, -1, 0), (0, 1, 1, 0), (0, 1, 1, 0), (0, -1, -1, 0)])
        self.assertEqual(signs, [0, 1, -1, 0])
        self.assertEqual(turned_about(Web(60, []), [], 59), ())

    def test_turned_about_at_all_places(self):
        # Turned about at all places, each tie is turned twice.
        web = Web(60, full(60))
        signs = drawn_signs(random.Random(48), web, (0, 1, -1))
        found = signs
        for place in range(60):
            found = turned_about(web, found, place)
        self.assertEqual(found, tuple(signs))

    def test_wrong_places(self):
        for place in no_integers() + [-1, 4, 10 ** 70]:
            check_raises(self, NoPlace(place), turned_about, SQUARE, [1, 1, 1, 1], place)


class SignsWithout(unittest.TestCase):
    def test_each_tie_keeps_its_sign(self):
        draw = random.Random(49)
        for _ in range(60):
            web = drawn_web(draw, draw.randint(2, 9), 0.6)
            signs = drawn_signs(draw, web, (0, 1, -1))
            gone = draw.sample(range(web.places), draw.randint(0, web.places - 1))
            staying = [place for place in range(web.places) if place not in gone]
            kept = list(gone)
            found = signs_without(web=web, signs=signs, gone=gone)
            less = without(web, gone)
            self.assertIs(type(found), tuple)
            self.assertEqual(len(found), len(less.ties))
            for (one, other), sign in zip(less.ties, found):
                self.assertEqual(sign, signs[web.ties.index((staying[one], staying[other]))])
            self.assertEqual((gone, signs_without(web, tuple(signs), tuple(gone))), (kept, found))

    def test_edges(self):
        self.assertEqual(signs_without(SQUARE, [1, 0, -1, 1], []), (1, 0, -1, 1))
        self.assertEqual(signs_without(SQUARE, [1, 0, -1, 1], [0, 2, 1]), ())
        self.assertEqual(signs_without(Web(3, []), [], [1]), ())

    def test_errors_of_without(self):
        web, signs = Web(3, [(0, 1), (0, 2), (1, 2)]), [1, 0, -1]
        for gone in no_integer_lists() + [0]:
            check_raises(self, BadNumber("gone"), signs_without, web, signs, gone)
        cases = [([3], NoPlace(3)), ([-1], NoPlace(-1)), ([0, 0, 7], NoPlace(7)), ([8, 9], NoPlace(8)), ([1, 2, 2, 1], Twice(2)),
                 ([0, 1, 2, 0], Twice(0)), ([2, 1, 0], Misfit("gone"))]
        for gone, error in cases:
            check_raises(self, error, signs_without, web, signs, gone)
            check_raises(self, BadSigns("signs"), signs_without, web, [1, 0], gone)
        check_raises(self, BadSigns("signs"), signs_without, web, [1, 0, True], Strange())

    def test_what_is_passed_stays(self):
        signs, gone = [1, 0, -1, 1], [2, 0]
        signs_without(SQUARE, signs, gone)
        need_signs(SQUARE, signs, True)
        table_of(SQUARE, signs)
        turned_about(SQUARE, signs, 2)
        self.assertEqual((signs, gone), ([1, 0, -1, 1], [2, 0]))
        signs = [1, 1, -1, 1]
        sign_poly(SQUARE, signs)
        self.assertEqual((signs, SQUARE.ties), ([1, 1, -1, 1], ((0, 1), (0, 3), (1, 2), (2, 3))))

    def test_all_signs_of_a_square(self):
        for signs in all_signs(SQUARE):
            last = 4 if signs[0] * signs[1] * signs[2] * signs[3] == -1 else 0
            self.assertEqual(sign_poly(SQUARE, signs).numbers, (1, 0, -4, 0, last))


if __name__ == "__main__":
    unittest.main()
