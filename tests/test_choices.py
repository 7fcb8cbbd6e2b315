"""Signs within a bound: told tie by tie, and found among all classes."""

import itertools
import random
import unittest

from goodsigns.bounds import Bound
from goodsigns.choices import GoodSigns, NoSigns, TooGreat, any_signs, degree_bound, good_signs, next_sign
from goodsigns.errors import BadBound, BadNumber, BadSigns, BadWeb, Misfit, NoTie, TooMany, Twice
from goodsigns.means import mean_poly
from goodsigns.papers import Denial, Paper
from goodsigns.reals import within
from goodsigns.signs import sign_poly, turned_about
from goodsigns.webs import Web
from helpers import (Strange, across, all_signs, beside, check_raises, check_same, drawn_bound, drawn_signs, drawn_web,
                     full, no_integer_lists, no_integers, no_kind, no_signs, raised, ring_of, row_of)

TRIANGLE, SQUARE = Web(3, ring_of(3)), Web(4, ring_of(4))
HALL = Web(6, across(3, 3))
ONE, TWO = Bound(1, 0, 0), Bound(2, 0, 0)


def signs_step_by_step(web, bound, order):
    """The signs that next_sign tells, one after the other."""
    signs = [0] * len(web.ties)
    for tie in order:
        signs[tie] = next_sign(web, tuple(signs), tie, bound)
    return tuple(signs)


def classes_by_turning(web):
    """The first signs of all classes, found by turning signs about at all places."""
    left, found = dict.fromkeys(all_signs(web), True), []
    tree = frame_ties(web)
    while left:
        fresh = mates = [next(iter(left))]
        while fresh:
            fresh = sorted({turned_about(web, signs, place) for signs in fresh for place in range(web.places)} - set(mates))
            mates = mates + fresh
        for signs in mates:
            del left[signs]
        firsts = [signs for signs in mates if all([signs[tie] == 1 for tie in tree])]
        assert len(firsts) == 1
        found.append(firsts[0])
    return sorted(found, key=lambda signs: [-sign for sign in signs])


def frame_ties(web):
    """The numbers of the ties of the frame, by the pieces that the ties ahead make."""
    found = []
    for tie, (one, other) in enumerate(web.ties):
        reached = {one}
        for _ in range(web.places):
            reached |= {place for each in found for place in web.ties[each] if set(web.ties[each]) & reached}
        if other not in reached:
            found.append(tie)
    return found


class Papers(unittest.TestCase):
    def test_words_and_parts(self):
        for paper, kind, word, parts in ((GoodSigns([1, [-1]]), Paper, "goodsigns", ((1, (-1,)),)),
                                         (TooGreat(power=3), Denial, "toogreat", (3,)),
                                         (NoSigns(powers=[1, 2]), Denial, "nosigns", ((1, 2),))):
            self.assertEqual((paper.word, paper.parts, type(paper).__bases__), (word, parts, (kind,)))
            self.assertIs(bool(paper), kind is Paper)
        self.assertEqual((GoodSigns([1]).signs, TooGreat([2]).power, NoSigns([1]).powers), ((1,), (2,), (1,)))
        self.assertEqual(GoodSigns(signs=(1,)), GoodSigns([1]))
        self.assertFalse(TooGreat(1) == Denial("toogreat", 1))


class DegreeBound(unittest.TestCase):
    def test_bounds(self):
        for web, under in ((HALL, 2), (TRIANGLE, 1), (Web(60, full(60)), 58), (Web(5, [(0, 4), (4, 2)]), 1)):
            self.assertEqual(degree_bound(web=web), Bound(0, 2, under))
        for web in (Web(1, []), Web(60, []), Web(4, [(0, 1), (2, 3)])):
            check_raises(self, Misfit("ties"), degree_bound, web)
        for value in no_kind(Web):
            check_raises(self, BadWeb("web"), degree_bound, value)


class NextSign(unittest.TestCase):
    def test_bounds_just_at_the_greatest_root(self):
        # The mean of the triangle has the root root 3, its next means have 2 with the product 1, and 1 with -1.
        root = Bound(0, 1, 3)
        for bound, is_great in ((root, False), (beside(root, 3, 1), False), (beside(TWO, 3, -1), False), (TWO, True),
                                (beside(TWO, 3, 1), True)):
            for tie, one, other in itertools.product(range(3), (1, -1), (1, -1)):
                signs = [one, other]
                signs.insert(tie, 0)
                check_same(self, next_sign(TRIANGLE, signs, tie, bound), 1 if is_great or one * other == -1 else -1)
        check_raises(self, Misfit("bound"), next_sign, TRIANGLE, [1, 0, 1], 1, beside(root, 3, -1))
        check_raises(self, Misfit("bound"), next_sign, TRIANGLE, [1, 0, 1], 1, ONE)

    def test_the_mean_is_asked_whatever_the_next_means_are(self):
        # The next mean with -1 is within 1, but the mean is not.
        self.assertTrue(within(mean_poly(TRIANGLE, [1, -1, 1]), ONE))
        for tie in range(3):
            check_raises(self, Misfit("bound"), next_sign, TRIANGLE, [0, 0, 0], tie, ONE)

    def test_drawn_webs(self):
        draw = random.Random(91)
        told = {1: 0, -1: 0, None: 0}
        while min(told.values()) < 25:
            web = drawn_web(draw, draw.randint(2, 7), draw.choice([0.4, 0.7]))
            signs, bound = list(drawn_signs(draw, web, (0, 1, -1))), drawn_bound(draw, web)
            free = [tie for tie, sign in enumerate(signs) if sign == 0]
            if free:
                tie = draw.choice(free)
                wanted = None
                if within(mean_poly(web, signs), bound):
                    signs[tie] = 1
                    wanted = 1 if within(mean_poly(web, signs), bound) else -1
                    signs[tie] = 0
                    check_same(self, next_sign(web=web, signs=tuple(signs), tie=tie, bound=bound), wanted)
                else:
                    check_raises(self, Misfit("bound"), next_sign, web, signs, tie, bound)
                told[wanted] += 1

    def test_wrong_arguments_in_their_order(self):
        for value in no_kind(Web):
            check_raises(self, BadWeb("web"), next_sign, value, None, None, None)
        for signs in no_signs(SQUARE, True):
            check_raises(self, BadSigns("signs"), next_sign, SQUARE, signs, None, None)
        for tie in no_integers() + [-1, 4, 10 ** 70, 0, 3]:
            check_raises(self, NoTie(tie), next_sign, SQUARE, [1, 0, 0, -1], tie, None)
        check_raises(self, NoTie(0), next_sign, Web(3, []), [], 0, TWO)
        for bound in no_kind(Bound):
            check_raises(self, BadBound("bound"), next_sign, SQUARE, [1, 0, 0, -1], 1, bound)
            check_raises(self, BadBound("bound"), next_sign, Web(25, full(25)), [0] * 300, 1, bound)
        check_raises(self, TooMany("places", 24), next_sign, Web(25, full(25)), [0] * 300, 0, Bound(-1, 0, 0))
        check_raises(self, TooMany("rings", 5000), next_sign, Web(24, full(24)), [0] * 276, 0, Bound(-1, 0, 0))
        check_raises(self, NoTie(0), next_sign, Web(24, full(24)), [1] * 276, 0, Bound(-1, 0, 0))
        check_raises(self, Misfit("bound"), next_sign, SQUARE, [1, 0, 0, -1], 1, Bound(-1, 0, 0))


class GoodSignsOfWebs(unittest.TestCase):
    def check_good(self, web, bound, order):
        kept = list(order)
        found = good_signs(web, bound, order)
        self.assertEqual(list(order), kept)
        told = within(mean_poly(web, [0] * len(web.ties)), bound)
        if told:
            self.assertEqual(found, GoodSigns(signs_step_by_step(web, bound, order)))
            self.assertTrue(within(sign_poly(web, found.signs), bound))
        else:
            self.assertEqual(found, TooGreat(told.power))
        self.assertEqual(good_signs(web=web, bound=bound, order=tuple(order)), found)
        return found

    def test_drawn_webs(self):
        draw = random.Random(92)
        told = {True: 0, False: 0}
        while min(told.values()) < 25:
            web = drawn_web(draw, draw.randint(1, 7), draw.choice([0.3, 0.5, 0.7]))
            order = draw.sample(range(len(web.ties)), len(web.ties))
            bound = drawn_bound(draw, web)
            if told[bool(within(mean_poly(web, [0] * len(web.ties)), bound))] < 40:
                told[bool(self.check_good(web, bound, order))] += 1

    def test_orders_of_every_kind(self):
        web = Web(4, full(4))
        bound = degree_bound(web)
        found = {order: self.check_good(web, bound, order).signs for order in itertools.permutations(range(6))
                 if order[0] in (0, 3) and order[1] in (1, 5)}
        self.assertGreater(len(set(found.values())), 1)
        for ties in (HALL.ties, HALL.ties[:-1]):
            web = Web(6, ties)
            many = list(range(len(ties)))
            for order in (many, many[::-1], many[::2] + many[1::2], many[4:] + many[:4]):
                self.check_good(web, Bound(0, 2, 2), order)
                self.check_good(web, beside(Bound(0, 1, 7), 7, -1), order)

    def test_bounds_just_at_the_greatest_root(self):
        # Pairing polys with the greatest roots root 3, root 2, root 5 and 2.
        for web, under in ((TRIANGLE, 3), (Web(3, row_of(3)), 2), (Web(6, [(0, at) for at in range(1, 6)]), 5),
                           (Web(5, row_of(5)), 3), (Web(5, [(0, at) for at in range(1, 5)]), 4)):
            root, order = Bound(0, 1, under), list(range(len(web.ties)))
            self.assertTrue(self.check_good(web, root, order))
            if under != 4:
                self.assertTrue(self.check_good(web, beside(root, under, 1), order))
                self.assertFalse(self.check_good(web, beside(root, under, -1), order))
        self.assertEqual(good_signs(Web(5, [(0, at) for at in range(1, 5)]), beside(TWO, 2, -1), [0, 1, 2, 3]), TooGreat(0))

    def test_powers(self):
        # Shifted by 1 the pairing poly of the triangle is x^3 + 3 x^2 - 2, by -1 it is x^3 - 3 x^2 + 2.
        for whole, power in ((1, 0), (0, 1), (-1, 2), (-2, 2)):
            self.assertEqual(good_signs(TRIANGLE, Bound(whole, 0, 5), [0, 1, 2]), TooGreat(power))
        for order in itertools.permutations(range(3)):
            self.assertEqual(good_signs(TRIANGLE, Bound(0, 0, 0), order), TooGreat(1))

    def test_webs_without_ties_and_without_a_ring(self):
        for places in (1, 24):
            self.assertEqual(good_signs(Web(places, []), Bound(0, 0, 0), []), GoodSigns([]))
            self.assertEqual(good_signs(Web(places, []), Bound(-1, 0, 0), ()), TooGreat(places - 1))
        web = Web(24, row_of(24))
        self.assertEqual(good_signs(web, TWO, list(range(23))).signs, (1,) * 23)
        self.assertEqual(good_signs(web, Bound(0, 1, 3), list(range(23))), TooGreat(within(mean_poly(web, [0] * 23), Bound(0, 1, 3)).power))

    def test_great_webs(self):
        draw = random.Random(93)
        ladder = Web(24, ring_of(12) + ring_of(12, 12) + [(at, at + 12) for at in range(12)])
        sides = Web(20, across(3, 17))
        for web in (ladder, sides, Web(24, ring_of(24)), Web(24, across(2, 22))):
            bound = degree_bound(web)
            order = draw.sample(range(len(web.ties)), len(web.ties))
            found = good_signs(web, bound, order)
            self.assertTrue(within(sign_poly(web, found.signs), bound))
            self.assertEqual(good_signs(web, bound, order), found)
        self.assertEqual(good_signs(Web(24, ring_of(24)), TWO, list(range(24))).signs, (1,) * 24)
        self.assertEqual(good_signs(Web(24, ring_of(24)), beside(TWO, 2, -1), list(range(24))).signs, (1,) * 22 + (1, -1))

    def test_orders_that_are_none(self):
        for order in no_integer_lists() + [0, "0123", {0: 0, 1: 1, 2: 2, 3: 3}, range(4)]:
            check_raises(self, BadNumber("order"), good_signs, SQUARE, TWO, order)
        cases = [([4], NoTie(4)), ([-1], NoTie(-1)), ([0, 0, 9, 8], NoTie(9)), ([0, 1, 2, 3, 4], NoTie(4)), ([0, 1, 1, 0], Twice(1)),
                 ([3, 2, 1, 3], Twice(3)), ([0, 1, 2, 3, 3], Twice(3)), ([0, 1, 2], Misfit("order")), ([], Misfit("order")),
                 ((3,), Misfit("order")), ([10 ** 70, 0, 0], NoTie(10 ** 70))]
        for order, error in cases:
            check_raises(self, error, good_signs, SQUARE, TWO, order)
            check_raises(self, error, good_signs, SQUARE, Bound(-5, 0, 0), order)
        check_raises(self, NoTie(0), good_signs, Web(2, []), TWO, [0])

    def test_wrong_arguments_in_their_order(self):
        for value in no_kind(Web):
            check_raises(self, BadWeb("web"), good_signs, value, None, None)
        for bound in no_kind(Bound):
            check_raises(self, BadBound("bound"), good_signs, SQUARE, bound, None)
        for places, error in ((25, TooMany("places", 24)), (24, TooMany("rings", 5000))):
            web = Web(places, full(places))
            many = len(web.ties)
            check_raises(self, error, good_signs, web, Bound(-1, 0, 0), list(range(many)))
            check_raises(self, Misfit("order"), good_signs, web, Bound(-1, 0, 0), list(range(1, many)))
            check_raises(self, NoTie(many), good_signs, web, Bound(-1, 0, 0), list(range(many + 1)))
            check_raises(self, BadNumber("order"), good_signs, web, Bound(-1, 0, 0), Strange())
        check_raises(self, TooMany("places", 24), good_signs, Web(25, []), Bound(-1, 0, 0), [])


class AnySigns(unittest.TestCase):
    def check_any(self, web, bound, classes):
        found = any_signs(web=web, bound=bound)
        told = [(signs, within(sign_poly(web, signs), bound)) for signs in classes]
        right = [signs for signs, each in told if each]
        self.assertEqual(found, GoodSigns(right[0]) if right else NoSigns([each.power for _, each in told]))
        return found

    def test_drawn_webs(self):
        draw = random.Random(94)
        told = {True: 0, False: 0}
        while min(told.values()) < 30:
            web = drawn_web(draw, draw.randint(1, 6), draw.choice([0.3, 0.5, 0.7]))
            if len(web.ties) <= 10:
                classes = classes_by_turning(web)
                for _ in range(3):
                    told[bool(self.check_any(web, drawn_bound(draw, web), classes))] += 1

    def test_signs_within_a_bound_that_the_pairing_poly_is_not_within(self):
        classes = classes_by_turning(HALL)
        self.assertEqual(len(classes), 16)
        self.assertEqual(sum([bool(within(sign_poly(HALL, signs), TWO)) for signs in classes]), 6)
        self.assertTrue(self.check_any(HALL, TWO, classes))
        self.assertEqual(good_signs(HALL, TWO, list(range(9))), TooGreat(1))
        self.assertFalse(self.check_any(HALL, beside(TWO, 2, -1), classes))
        self.assertEqual(any_signs(TRIANGLE, ONE).signs, (1, 1, -1))
        self.assertEqual(any_signs(TRIANGLE, beside(ONE, 2, -1)), NoSigns([1, 1]))

    def test_256_classes_and_more(self):
        chords = [(0, 2), (1, 4), (3, 6), (5, 8), (7, 10), (9, 11), (2, 7)]
        web = Web(12, ring_of(12) + chords)
        found = any_signs(web, Bound(0, 2, 2))
        self.assertTrue(within(sign_poly(web, found.signs), Bound(0, 2, 2)))
        self.assertEqual([found.signs[tie] for tie in frame_ties(web)], [1] * 11)
        self.assertEqual(len(any_signs(web, ONE).powers), 256)
        check_raises(self, TooMany("classes", 256), any_signs, Web(12, ring_of(12) + chords + [(0, 6)]), Bound(0, 2, 2))
        # In three pieces 17 ties leave eight rows of free choice, too.
        web = Web(12, full(5) + ring_of(4, 5))
        self.assertEqual(len(any_signs(web, ONE).powers), 128)
        web = Web(12, full(5) + ring_of(4, 5) + [(5, 7)])
        self.assertEqual(len(any_signs(web, ONE).powers), 256)
        check_raises(self, TooMany("classes", 256), any_signs, Web(12, full(5) + full(4, 5)), ONE)
        check_raises(self, TooMany("classes", 256), any_signs, Web(12, full(12)), ONE)

    def test_webs_of_12_places_and_13(self):
        for places in (1, 12):
            self.assertEqual(any_signs(Web(places, []), Bound(0, 0, 0)), GoodSigns([]))
            self.assertEqual(any_signs(Web(places, []), Bound(-1, 0, 0)), NoSigns([places - 1]))
        self.assertEqual(any_signs(Web(12, ring_of(12)), beside(TWO, 2, -1)).signs, (1,) * 11 + (-1,))
        for web in (Web(13, []), Web(13, full(13)), Web(60, full(60))):
            check_raises(self, TooMany("places", 12), any_signs, web, TWO)

    def test_rings_of_both_products(self):
        # A ring of n places has the greatest root 2 with the product 1, and less with -1.
        for places in range(3, 13):
            web = Web(places, ring_of(places))
            self.assertEqual(any_signs(web, TWO).signs, (1,) * places)
            # The last tie closes the ring.
            self.assertEqual(any_signs(web, beside(TWO, 2, -1)).signs, (1,) * (places - 1) + (-1,))

    def test_wrong_arguments_in_their_order(self):
        for value in no_kind(Web):
            check_raises(self, BadWeb("web"), any_signs, value, None)
        for bound in no_kind(Bound):
            check_raises(self, BadBound("bound"), any_signs, Web(13, full(13)), bound)
        self.assertIsNone(raised(any_signs, TRIANGLE, TWO))


if __name__ == "__main__":
    unittest.main()
