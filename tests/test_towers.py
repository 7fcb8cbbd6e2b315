"""Towers of signs within a bound, each storey on the cover by the one below."""

import itertools
import random
import unittest

from goodsigns.bounds import Bound
from goodsigns.choices import good_signs
from goodsigns.covers import cover
from goodsigns.errors import BadBound, BadNumber, BadWeb, Misfit, TooMany
from goodsigns.pairings import pairing_poly
from goodsigns.papers import Denial, Paper
from goodsigns.polys import Poly
from goodsigns.reals import SomeAbove, within
from goodsigns.signs import turned_about
from goodsigns.towers import Tower, TowerTooGreat, shows_tower, tower
from goodsigns.webs import Web
from helpers import (Strange, across, all_signs, beside, bounds_about, check_raises, check_same, cube, drawn_signs, full,
                     no_integers, no_kind, no_signs, numbers_of_signs, renamed, ring_of, rings_of, row_of)

SQUARE, RING_OF_SIX, RING_OF_EIGHT = Web(4, ring_of(4)), Web(6, ring_of(6)), Web(8, ring_of(8))
TWO_RINGS, HALL, CUBE = Web(10, ring_of(4) + ring_of(6, 4)), Web(6, across(3, 3)), Web(8, cube())
GREAT_HALL = Web(8, across(4, 4))
TWO = Bound(2, 0, 0)
BASES = [SQUARE, RING_OF_SIX, RING_OF_EIGHT, TWO_RINGS, HALL, CUBE]


def natural(web):
    """The ties of a web in their order."""
    return list(range(len(web.ties)))


def covers_up(web, storeys):
    """The web of each storey, and the one on top."""
    found = [web]
    for signs in storeys:
        found.append(cover(found[-1], signs))
    return found


def tower_by_steps(web, storeys, bound):
    """What tower tells, by good_signs."""
    told, top = [], web
    for _ in range(storeys):
        good = good_signs(top, bound, natural(top))
        if not good:
            return TowerTooGreat(told, good.power)
        told.append(good.signs)
        top = cover(top, good.signs)
    return Tower(told)


def are_good(web, bound, storeys):
    """Whether each storey is signs of its web within the bound; its poly is told by traces."""
    top = web
    for signs in storeys:
        if len(signs) != len(top.ties) or any([sign not in (1, -1) for sign in signs]):
            return False
        if not within(Poly(numbers_of_signs(top, signs)), bound):
            return False
        top = cover(top, signs)
    return True


def great_power(web, bound):
    """The power that shows that the pairing poly is not within the bound, None if it is."""
    found = good_signs(web, bound, natural(web))
    return None if found else found.power


class Papers(unittest.TestCase):
    def test_words_and_parts(self):
        paper, denial = Tower([[1, [-1]]]), TowerTooGreat([[1], (2,)], power=3)
        self.assertEqual((paper.word, paper.parts, paper.signs), ("tower", (((1, (-1,)),),), ((1, (-1,)),)))
        self.assertEqual((denial.word, denial.parts), ("towertoogreat", (((1,), (2,)), 3)))
        self.assertEqual((denial.signs, denial.power), (((1,), (2,)), 3))
        self.assertEqual((Tower.__bases__, TowerTooGreat.__bases__), ((Paper,), (Denial,)))
        self.assertEqual(Tower(signs=((1,),)), Tower([[1]]))
        self.assertEqual((bool(paper), bool(denial)), (True, False))


class Towers(unittest.TestCase):
    def check_tower(self, web, storeys, bound):
        found = tower(web=web, storeys=storeys, bound=bound)
        self.assertEqual(found, tower_by_steps(web, storeys, bound))
        self.assertTrue(are_good(web, bound, found.signs))
        self.assertEqual(found, tower(web, storeys, bound))
        check_same(self, shows_tower(web, storeys, bound, found), True)
        if found:
            self.assertEqual((type(found), len(found.signs)), (Tower, storeys))
        else:
            self.assertLess(len(found.signs), storeys)
            top = covers_up(web, found.signs)[-1]
            if top.places <= 16:
                self.assertEqual(found.power, within(pairing_poly(top), bound).power)
        for other in (0, storeys - 1, storeys + 1):
            if 0 <= other != storeys and web.places << max(other - 1, 0) <= 24:
                right = not found and len(found.signs) < other
                check_same(self, shows_tower(web, other, bound, found), right)
        return found

    def test_towers_of_0_to_3_storeys(self):
        draw = random.Random(121)
        for base, storeys in itertools.product(BASES, range(4)):
            for web in (base, renamed(draw, base), renamed(draw, base)):
                # 2 root(d - 1) is a bound that all storeys are within.
                bound = Bound(0, 2, web.most - 1)
                if storeys and web.places << storeys - 1 > 24:
                    check_raises(self, TooMany("places", 24), tower, web, storeys, bound)
                    check_raises(self, TooMany("places", 24), shows_tower, web, storeys, bound, None)
                else:
                    self.assertTrue(self.check_tower(web, storeys, bound))
                    for less in (Bound(0, 1, 3), Bound(-12, 1, 195), Bound(1, 1, 2), Bound(-1, 1, 8), Bound(0, 0, 0)):
                        self.check_tower(web, storeys, less)

    def test_bounds_just_about_the_greatest_root_of_a_pairing_poly(self):
        for web in BASES:
            below, above = bounds_about(pairing_poly(web))
            self.assertTrue(self.check_tower(web, 1, above))
            found = self.check_tower(web, 1, below)
            self.assertEqual((found.signs, bool(found)), ((), False))
        for web, below in ((SQUARE, Bound(-12, 1, 195)), (HALL, Bound(0, 2, 2)), (CUBE, Bound(0, 2, 2))):
            signs = None
            while signs != tower(web, 1, below).signs:
                signs = tower(web, 1, below).signs
                below, above = bounds_about(pairing_poly(cover(web, signs[0])))
            # The pairing poly of the web itself has its roots further below.
            self.assertEqual([self.check_tower(web, 1, each).signs for each in (below, above)], [signs] * 2)
            self.assertEqual(self.check_tower(web, 2, below).signs, signs)
            self.assertTrue(self.check_tower(web, 2, above))

    def test_bounds_that_are_a_root(self):
        # The pairing poly of three and three, tied all across, is told in y, the square: y^3 - 9 y^2 + 18 y - 6.
        for web, bound in ((SQUARE, TWO), (HALL, Bound(0, 2, 2)), (CUBE, Bound(0, 2, 2))):
            for way in (1, -1):
                self.check_tower(web, 2, beside(bound, 2, way))
        # Two rings of four have the pairing poly (x^4 - 4 x^2 + 2)^2, and with one minus each (x^2 - 2)^4.
        web = Web(8, ring_of(4) + ring_of(4, 4))
        self.assertEqual(self.check_tower(web, 1, Bound(-12, 1, 195)).signs, ((1, 1, 1, -1) * 2,))

    def test_towers_that_stop_below(self):
        # A ring of n with the product -1 is covered by one of 2 n, whose pairing poly has a greater root.
        draw = random.Random(122)
        told = {}
        for base in (SQUARE, RING_OF_SIX, Web(8, ring_of(4) + ring_of(4, 4)), HALL):
            for _ in range(12):
                web = renamed(draw, base)
                most = 3 if web.places <= 6 else 2
                bound = Bound(-10 ** 3, 1, (10 ** 3 + 2) ** 2 - draw.randint(1, 300))
                found = self.check_tower(web, most, bound)
                told[len(found.signs)] = told.get(len(found.signs), 0) + 1
        self.assertEqual(sorted(told), [0, 1, 2, 3])

    def test_powers(self):
        # Shifted by -1 the square's x^4 - 4 x^2 + 2 is x^4 - 4 x^3 + 2 x^2 + 4 x - 1, by 1 it has 4, 2, -4, -1 behind 1.
        self.assertEqual([tower(SQUARE, 1, Bound(whole, 0, 0)) for whole in (-1, 0, 1)],
                         [TowerTooGreat([], 3), TowerTooGreat([], 2), TowerTooGreat([], 1)])
        self.assertEqual([shows_tower(SQUARE, 1, Bound(-1, 0, 0), TowerTooGreat((), power)) for power in range(5)],
                         [False, False, False, True, False])

    def test_last_storeys_of_just_24_places_and_more(self):
        for web, storeys in ((HALL, 3), (Web(12, ring_of(12)), 2), (Web(24, ring_of(24)), 1), (Web(24, cube() + [
                (a + 8, b + 8) for a, b in cube()] + [(a + 16, b + 16) for a, b in cube()]), 1)):
            bound = Bound(0, 2, web.most - 1)
            self.assertTrue(self.check_tower(web, storeys, bound))
            check_raises(self, TooMany("places", 24), tower, web, storeys + 1, bound)
        for web, storeys in ((SQUARE, 4), (Web(26, ring_of(26)), 1), (Web(60, across(30, 30)), 1), (Web(14, ring_of(14)), 2),
                             (SQUARE, 9), (Web(60, ring_of(60)), 9)):
            check_raises(self, TooMany("places", 24), tower, web, storeys, Bound(-9, 0, 0))
            check_raises(self, TooMany("places", 24), shows_tower, web, storeys, Bound(-9, 0, 0), Tower([]))

    def test_no_storey(self):
        for web in BASES + [Web(60, across(30, 30)), Web(60, ring_of(60))]:
            for bound in (TWO, Bound(-5, 0, 0)):
                self.assertEqual(tower(web, 0, bound), Tower([]))
                check_same(self, shows_tower(web, 0, bound, Tower(())), True)
                for value in (Tower([[]]), Tower([[1] * len(web.ties)]), TowerTooGreat([], 0), TowerTooGreat([], 2)):
                    check_same(self, shows_tower(web, 0, bound, value), False)

    def test_many_rings(self):
        self.assertLess(len(rings_of(GREAT_HALL)), 5000)
        bound = Bound(0, 2, 3)
        found = self.check_tower(GREAT_HALL, 1, bound)
        check_raises(self, TooMany("rings", 5000), tower, GREAT_HALL, 2, bound)
        self.assertEqual(self.check_tower(GREAT_HALL, 2, Bound(1, 0, 0)).signs, ())
        top = cover(GREAT_HALL, found.signs[0])
        some = [1] * 32
        some[0], some[31] = -1, -1
        wanted = bool(within(Poly(numbers_of_signs(top, some)), bound))
        check_same(self, shows_tower(GREAT_HALL, 2, bound, Tower([found.signs[0], some])), wanted)
        # A web with more rings than 5000 is not asked for its pairing poly, whether or not this is within the bound.
        for less in (bound, Bound(0, 1, 12), TWO):
            signs = found.signs if shows_tower(GREAT_HALL, 1, less, found) else ()
            for power in range(17):
                if signs:
                    check_same(self, shows_tower(GREAT_HALL, 2, less, TowerTooGreat(signs, power)), False)
        web = Web(12, across(6, 6))
        for bound in (Bound(0, 2, 5), Bound(-1, 0, 0)):
            check_raises(self, TooMany("rings", 5000), tower, web, 1, bound)
            for value in (None, Tower([[1] * 36]), TowerTooGreat([], 0), TowerTooGreat([], 11)):
                check_same(self, shows_tower(web, 1, bound, value), False)
        check_same(self, shows_tower(web, 1, Bound(6, 0, 0), Tower([[1] * 36])), True)
        check_same(self, shows_tower(web, 1, beside(Bound(6, 0, 0), 2, -1), Tower([[1] * 36])), False)


class TowerPapers(unittest.TestCase):
    def test_all_signs_of_one_storey(self):
        for web in (SQUARE, RING_OF_SIX):
            for bound in (Bound(0, 1, 2), beside(Bound(0, 1, 2), 2, -1), TWO, beside(TWO, 2, -1), Bound(0, 1, 3)):
                for signs in all_signs(web):
                    check_same(self, shows_tower(web, 1, bound, Tower([list(signs)])), are_good(web, bound, [signs]))

    def test_drawn_storeys(self):
        draw = random.Random(123)
        told = {True: 0, False: 0}
        while min(told.values()) < 40:
            web = renamed(draw, draw.choice([SQUARE, RING_OF_SIX, HALL]))
            bound = draw.choice([TWO, Bound(0, 2, 2), Bound(0, 1, 6), Bound(-10, 1, 143), Bound(2, 1, 1)])
            storeys = draw.randint(1, 2)
            told_signs, top = [], web
            for _ in range(draw.choice([storeys, storeys, storeys - 1, storeys + 1])):
                signs = drawn_signs(draw, top)
                if draw.random() < 0.7:
                    found = good_signs(top, bound, draw.sample(natural(top), len(top.ties)))
                    signs = found.signs if found else signs
                told_signs.append(signs)
                top = cover(top, signs)
            wanted = len(told_signs) == storeys and are_good(web, bound, told_signs)
            told[wanted] += 1
            check_same(self, shows_tower(web, storeys, bound, Tower(told_signs)), wanted)
            power = great_power(top, bound) if are_good(web, bound, told_signs) and len(told_signs) < storeys else None
            for each in range(top.places + 1):
                check_same(self, shows_tower(web, storeys, bound, TowerTooGreat(told_signs, each)), each == power)

    def test_signs_turned_about(self):
        draw = random.Random(124)
        for web, bound, storeys in ((SQUARE, Bound(-12, 1, 195), 2), (HALL, Bound(0, 2, 2), 2)):
            right = tower(web, storeys, bound).signs
            webs = covers_up(web, right)
            for _ in range(20):
                # The last storey carries none: turned about, it keeps its poly.
                last = right[-1]
                for place in draw.sample(range(webs[1].places), draw.randint(1, 4)):
                    last = turned_about(webs[1], last, place)
                check_same(self, shows_tower(web, storeys, bound, Tower([right[0], last])), True)
            for place in range(web.places):
                # Behind the first one turned about, the ties of the cover are others.
                first = turned_about(web, right[0], place)
                check_same(self, shows_tower(web, storeys, bound, Tower([first, right[1]])), are_good(web, bound, [first, right[1]]))

    def test_storeys_that_are_bent(self):
        bound = Bound(-12, 1, 195)
        right = tower(SQUARE, 2, bound).signs
        for signs in no_signs(SQUARE, False):
            check_same(self, shows_tower(SQUARE, 2, bound, Tower([signs, right[1]])), False)
            check_same(self, shows_tower(SQUARE, 2, bound, TowerTooGreat([signs], 0)), False)
        for signs in no_signs(RING_OF_EIGHT, False):
            check_same(self, shows_tower(SQUARE, 2, bound, Tower([right[0], signs])), False)
        for signs in no_integers() + [0, 1, right[0], right[1], [right], [[right[0]], right[1]], right[::-1], right[:1], right[1:],
                                      right + right[1:], right + ((),), ((),) + right, {0: right[0], 1: right[1]}]:
            check_same(self, shows_tower(SQUARE, 2, bound, Tower(signs)), False)
        for sign in (1.0, True, "1", None, [1], 0, 2, Strange()):
            check_same(self, shows_tower(SQUARE, 2, bound, Tower([(sign,) + right[0][1:], right[1]])), False)
            check_same(self, shows_tower(SQUARE, 2, bound, Tower([right[0], (sign,) + right[1][1:]])), False)

    def test_denials_that_are_bent(self):
        bound, right = Bound(-10, 1, 143), [(1, 1, 1, -1)]
        for storeys in (2, 3):
            check_same(self, shows_tower(SQUARE, storeys, bound, TowerTooGreat(right, 0)), True)
            check_same(self, shows_tower(SQUARE, storeys, bound, TowerTooGreat([[-1, 1, 1, 1]], 0)), True)
            # The square itself is within the bound.
            check_same(self, shows_tower(SQUARE, storeys, bound, TowerTooGreat([], 0)), False)
            check_same(self, shows_tower(SQUARE, storeys, bound, TowerTooGreat([(1, 1, 1, 1)], 0)), False)
            for power in no_integers() + [1, 2, -1, 8, 10 ** 70, [0], 0.0, "0"]:
                check_same(self, shows_tower(SQUARE, storeys, bound, TowerTooGreat(right, power)), False)
            for signs in no_integers() + [0, right[0], [right], right * 2]:
                check_same(self, shows_tower(SQUARE, storeys, bound, TowerTooGreat(signs, 0)), False)
        check_same(self, shows_tower(SQUARE, 1, bound, TowerTooGreat(right, 0)), False)
        # Two rings of four above the square with the product 1 have the pairing poly of the square, squared.
        found = TowerTooGreat([(1, 1, 1, 1)], great_power(cover(SQUARE, (1, 1, 1, 1)), beside(TWO, 2, -1)))
        self.assertIsNone(found.power)
        check_same(self, shows_tower(SQUARE, 2, TWO, found), False)

    def test_a_denial_of_signs_that_good_signs_does_not_tell(self):
        # Three and three within root 6: the pairing poly is not, some signs are, and the cover by them is not either.
        bound, signs = Bound(0, 1, 6), (-1, 1, 1, 1, -1, 1, 1, 1, -1)
        power = great_power(cover(HALL, signs), bound)
        self.assertEqual([shows_tower(HALL, 2, bound, TowerTooGreat([signs], each)) for each in range(13)],
                         [each == power for each in range(13)])
        self.assertIsNotNone(power)
        check_same(self, shows_tower(HALL, 1, bound, TowerTooGreat([signs], power)), False)
        check_same(self, shows_tower(HALL, 2, bound, TowerTooGreat([[1] * 9], power)), False)

    def test_other_values(self):
        for value in no_integers() + [0, Tower, TowerTooGreat, Paper("tower", [[1] * 4]), Denial("towertoogreat", [], 0), SomeAbove(0),
                                      ((1, 1, 1, 1),), Strange()]:
            for bound in (TWO, Bound(0, 0, 0)):
                check_same(self, shows_tower(SQUARE, 1, bound, value), False)

    def test_arguments_by_name(self):
        check_same(self, shows_tower(value=Tower([(1, 1, 1, -1)]), bound=TWO, storeys=1, web=SQUARE), True)


class Wrong(unittest.TestCase):
    def check_both(self, error, web, storeys, bound):
        check_raises(self, error, tower, web, storeys, bound)
        for value in (None, Tower([]), TowerTooGreat([], 0), Strange()):
            check_raises(self, error, shows_tower, web, storeys, bound, value)

    def test_kinds_in_their_order(self):
        for web in no_kind(Web):
            self.check_both(BadWeb("web"), web, None, None)
        for storeys in no_integers() + [-1, 10, 10 ** 70]:
            self.check_both(BadNumber("storeys"), Web(3, ring_of(3)), storeys, None)
        for bound in no_kind(Bound):
            self.check_both(BadBound("bound"), Web(3, ring_of(3)), 9, bound)

    def test_webs_that_do_not_fit(self):
        for ties, places in ((ring_of(3), 3), (full(4), 4), (ring_of(5), 5), (ring_of(4) + ring_of(5, 4), 9), (ring_of(3) + [(0, 3)], 4),
                             (full(60), 60)):
            for storeys in (0, 1, 9):
                self.check_both(Misfit("sides"), Web(places, ties), storeys, TWO)
        for ties, places in (([], 1), ([], 60), ([(0, 1)], 2), ([(0, 1), (2, 3)], 4), (row_of(3), 3), (ring_of(4), 5),
                             (ring_of(4) + across(3, 3), 6), (ring_of(6) + [(0, 3)], 6), (across(2, 3), 5)):
            web = Web(places, sorted({tuple(sorted(tie)) for tie in ties}))
            wanted = "sides" if [ring for ring in rings_of(web) if len(ring) % 2] else "ties"
            for storeys in (0, 1, 9):
                self.check_both(Misfit(wanted), web, storeys, TWO)
        self.check_both(Misfit("ties"), Web(60, row_of(60)), 9, TWO)

    def test_places_ahead_of_rings(self):
        self.check_both(TooMany("places", 24), Web(26, across(13, 13)), 1, TWO)

    def test_what_is_passed_stays(self):
        paper = TowerTooGreat([[1, 1, 1, -1]], 0)
        shows_tower(SQUARE, 2, Bound(-10, 1, 143), paper)
        self.assertEqual(paper.parts, (((1, 1, 1, -1),), 0))
        self.assertEqual(SQUARE, Web(4, ring_of(4)))


if __name__ == "__main__":
    unittest.main()
