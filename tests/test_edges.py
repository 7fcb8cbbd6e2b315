"""Shells round ties, ties that are far, and weights that hold a bound."""

import itertools
import random
import unittest

from goodsigns.bounds import Bound, added, at_most, multiplied, sign_of
from goodsigns.edges import Weights, far_weights, second_bound, shells, shows_weights
from goodsigns.errors import BadBound, BadNumber, BadSigns, BadWeb, Misfit, NoTie
from goodsigns.papers import Denial, Paper
from goodsigns.signs import turned_about
from goodsigns.webs import Web, without
from helpers import (Strange, across, along, beside, check_raises, check_same, cube, drawn_signs, drawn_web, full, no_integers,
                     no_kind, no_signs, renamed, ring_of, rings_of, row_of)

# Two rings of eight, each place tied to its copy: each place has three ties.
WIDE = Web(16, ring_of(8) + ring_of(8, 8) + [(at, at + 8) for at in range(8)])
TRIANGLE, SQUARE = Web(3, ring_of(3)), Web(4, ring_of(4))
TWO = Bound(2, 0, 0)


def steps_from(web, tie):
    """For each place that can be reached from a tie the number of steps to it."""
    found = dict.fromkeys(web.ties[tie], 0)
    for step in range(1, web.places):
        near = {place for each in web.ties for place in each if set(each) & set(found)} - set(found)
        found.update(dict.fromkeys(near, step))
    return found


def ball_of(web, tie, steps):
    """The places of a ball."""
    return {place for place, far in steps_from(web, tie).items() if far <= steps}


def are_apart(web, one, other):
    """Whether two sets of places share none, and no tie leads from one to the other."""
    return not one & other and not [tie for tie in web.ties if set(tie) & one and set(tie) & other]


def is_even(web, signs, ball):
    """Whether no ring of the ball has the product -1."""
    inner = without(web, [place for place in range(web.places) if place not in ball])
    told = [sign for tie, sign in zip(web.ties, signs) if set(tie) <= ball]
    return all([along(inner, told, ring) == 1 for ring in rings_of(inner)])


def do_hold(web, signs, times, bound, rows):
    """Whether two rows of Bounds of the bound's under hold it, told tie by tie."""
    zero = Bound(0, 0, bound.under)
    inside = [{place for place, weight in enumerate(row) if sign_of(weight) != 0} for row in rows]
    if not all(inside) or not are_apart(web, *inside):
        return False
    for row in rows:
        total, squares = zero, zero
        for (one, other), sign in zip(web.ties, signs):
            total = added(total, multiplied(Bound(2 * times * sign, 0, bound.under), multiplied(row[one], row[other])))
        for weight in row:
            squares = added(squares, multiplied(weight, weight))
        if not at_most(multiplied(squares, bound), total):
            return False
    return True


def with_weight(row, place, weight):
    """A row with another weight at a place."""
    return row[:place] + (weight,) + row[place + 1:]


class Shells(unittest.TestCase):
    def test_drawn_webs(self):
        draw = random.Random(131)
        for _ in range(60):
            web = drawn_web(draw, draw.randint(2, 12), draw.choice([0.1, 0.2, 0.4]))
            for tie in range(len(web.ties)):
                far = steps_from(web, tie)
                steps = draw.randint(0, 8)
                wanted = tuple([tuple(sorted([place for place in far if far[place] == step])) for step in range(steps + 1)])
                check_same(self, shells(web=web, tie=tie, steps=steps), wanted)

    def test_shells_beyond_the_last_place(self):
        self.assertEqual(shells(Web(2, [(0, 1)]), 0, 60), ((0, 1),) + ((),) * 60)
        self.assertEqual(shells(Web(60, row_of(60)), 0, 60), ((0, 1),) + tuple([(at,) for at in range(2, 60)]) + ((), ()))
        self.assertEqual(shells(Web(60, row_of(60)), 29, 30), ((29, 30),) + tuple([(29 - at, 30 + at) for at in range(1, 30)]) + ((),))
        self.assertEqual(shells(Web(6, [(0, 5), (1, 2)]), 0, 2), ((0, 5), (), ()))
        self.assertEqual(shells(Web(60, full(60)), 7, 1), ((0, 8), tuple([at for at in range(60) if at not in (0, 8)])))
        self.assertEqual(shells(WIDE, 0, 0), ((0, 1),))

    def test_wrong_arguments_in_their_order(self):
        for web in no_kind(Web):
            check_raises(self, BadWeb("web"), shells, web, None, None)
        for tie in no_integers() + [-1, 4, 10 ** 70]:
            check_raises(self, NoTie(tie), shells, SQUARE, tie, None)
        check_raises(self, NoTie(0), shells, Web(3, []), 0, None)
        for steps in no_integers() + [-1, 61, 10 ** 70]:
            check_raises(self, BadNumber("steps"), shells, SQUARE, 3, steps)


class SecondBound(unittest.TestCase):
    def test_bounds(self):
        for many, steps in itertools.product((2, 3, 7, 60, 10 ** 64), (0, 1, 5, 60)):
            self.assertEqual(second_bound(many=many, steps=steps), Bound(1, 2 * steps, many - 1))

    def test_wrong_arguments_in_their_order(self):
        for many in no_integers() + [1, 0, -1]:
            check_raises(self, BadNumber("many"), second_bound, many, None)
        for steps in no_integers() + [-1, 61, 10 ** 70]:
            check_raises(self, BadNumber("steps"), second_bound, 2, steps)


class FarWeights(unittest.TestCase):
    def check_row(self, web, signs, tie, steps, row):
        """Check that a row is just what the document tells."""
        under = web.most - 1
        far = steps_from(web, tie)
        self.assertEqual((type(row), len(row)), (tuple, web.places))
        for place, weight in enumerate(row):
            self.assertIs(type(weight), Bound)
            if far.get(place, steps + 1) > steps:
                self.assertEqual(weight, Bound(0, 0, under))
            else:
                power = steps - far[place]
                wanted = (0, under ** (power // 2), under) if power % 2 else (under ** (power // 2), 0, under)
                self.assertEqual((abs(weight.whole), abs(weight.part), weight.under), wanted)
        self.assertEqual(sign_of(row[web.ties[tie][0]]), 1)
        for (one, other), sign in zip(web.ties, signs):
            if far.get(one, steps + 1) <= steps and far.get(other, steps + 1) <= steps:
                self.assertEqual(sign_of(row[one]) * sign_of(row[other]), sign)

    def check_far(self, web, signs, one, other, steps):
        """Check what far_weights tells of two ties, and return it: None, or the part of a Misfit."""
        kept = list(signs)
        if not are_apart(web, ball_of(web, one, steps), ball_of(web, other, steps)):
            check_raises(self, Misfit("far"), far_weights, web, signs, one, other, steps)
            return "far"
        if not all([is_even(web, signs, ball_of(web, tie, steps)) for tie in (one, other)]):
            check_raises(self, Misfit("ring"), far_weights, web, signs, one, other, steps)
            return "ring"
        found = far_weights(web, signs, one, other, steps)
        self.assertIs(type(found), Weights)
        self.check_row(web, signs, one, steps, found.first)
        self.check_row(web, signs, other, steps, found.second)
        bound = second_bound(web.most, steps)
        check_same(self, shows_weights(web, signs, steps + 1, bound, found), True)
        self.assertTrue(do_hold(web, signs, steps + 1, bound, found.parts))
        self.assertEqual(far_weights(signs=tuple(signs), steps=steps, other=other, one=one, web=web), found)
        self.assertEqual(list(signs), kept)
        return None

    def test_every_two_ties(self):
        draw = random.Random(132)
        told = {}
        bases = [WIDE, Web(16, ring_of(16)), Web(8, cube()), Web(12, full(4) + full(4, 4) + full(4, 8)), Web(12, ring_of(5) + ring_of(7, 5))]
        for base in bases:
            web = renamed(draw, base)
            for steps in range(5):
                for one, other in draw.sample(list(itertools.product(range(len(web.ties)), repeat=2)), 20):
                    signs = [1] * len(web.ties)
                    for place in draw.sample(range(web.places), draw.randint(0, 5)):
                        signs = list(turned_about(web, signs, place))
                    if draw.random() < 0.5:
                        signs[draw.randrange(len(signs))] *= -1
                    found = self.check_far(web, draw.choice([list, tuple])(signs), one, other, steps)
                    told[found] = told.get(found, 0) + 1
        self.assertGreater(min([told[key] for key in ("far", "ring", None)]), 15)

    def test_ties_just_far_and_just_not(self):
        # In a ring the places 0, 1 and at, at + 1: the balls of k steps leave at - 2 - 2 k places between them.
        for places in (12, 13, 16):
            web = Web(places, ring_of(places))
            number = {tie: at for at, tie in enumerate(web.ties)}
            for at, steps in itertools.product(range(1, places - 1), range(6)):
                between = [at - 2 - 2 * steps, places - at - 2 - 2 * steps]
                wanted = None if min(between) >= 1 else "far"
                self.assertEqual(self.check_far(web, [1] * places, number[0, 1], number[at, at + 1], steps), wanted)
        # A tie leads from one ball to the other, though they share no place.
        self.assertEqual(self.check_far(Web(6, ring_of(6)), [1] * 6, 0, 4, 0), None)
        self.assertEqual(self.check_far(Web(5, ring_of(5)), [1] * 5, 0, 3, 0), "far")
        self.assertEqual([self.check_far(WIDE, [1] * 24, 2, 10, steps) for steps in range(4)], [None, None, "far", "far"])

    def test_one_tie_twice(self):
        for steps in (0, 60):
            check_raises(self, Misfit("far"), far_weights, SQUARE, [1] * 4, 2, 2, steps)

    def test_pieces_are_far_by_all_steps(self):
        web = Web(60, full(4) + full(4, 4) + [tie for at in range(8, 60, 4) for tie in full(4, at)])
        signs = [1] * len(web.ties)
        for steps in (0, 1, 7, 60):
            self.assertIsNone(self.check_far(web, signs, 0, len(signs) - 1, steps))
        self.assertEqual(max([weight.whole for weight in far_weights(web, signs, 0, 6, 60).first]), 2 ** 30)

    def test_signs_that_are_even_in_one_ball_alone(self):
        # The rings of four between both rings of eight are about each tie that joins them.
        inner = WIDE.ties.index((0, 1))
        signs = [1] * 24
        signs[inner] = -1
        for one, other in ((2, 10), (10, 2)):
            self.assertEqual(self.check_far(WIDE, signs, one, other, 1), "ring")
            self.assertIsNone(self.check_far(WIDE, signs, one, other, 0))
        # A ring that is not all within a ball does not count, nor one through both balls.
        web = Web(12, ring_of(12))
        bent = [-1] + [1] * 11
        number = {tie: at for at, tie in enumerate(web.ties)}
        for at in range(5, 8):
            self.assertIsNone(self.check_far(web, bent, number[0, 1], number[at, at + 1], 1))
        both = turned_about(WIDE, signs, 1)
        self.assertEqual(self.check_far(WIDE, both, 2, 10, 1), "ring")
        signs[WIDE.ties.index((4, 5))] = -1
        self.assertEqual(self.check_far(WIDE, signs, 2, 10, 1), "ring")

    def test_two_ties_at_each_place(self):
        # Root 1 stands as it is told: whole for even powers, part for odd ones.
        found = far_weights(Web(12, ring_of(12)), [1] * 12, 0, 7, 1)
        self.assertEqual([str(found.first[place]) for place in (0, 1, 2, 3, 11)], ["0 1 1", "0 1 1", "1 0 1", "0 0 1", "1 0 1"])

    def test_webs_whose_places_have_unlike_numbers_of_ties(self):
        for web in (Web(2, [(0, 1)]), Web(4, [(0, 1), (2, 3)]), Web(9, ring_of(4) + ring_of(4, 4)), Web(8, ring_of(4) + full(4, 4)),
                    Web(6, row_of(6)), Web(5, across(2, 3))):
            signs = [1] * len(web.ties)
            for other in (0, len(signs) - 1):
                check_raises(self, Misfit("ties"), far_weights, web, signs, 0, other, 0)

    def test_wrong_arguments_in_their_order(self):
        for web in no_kind(Web):
            check_raises(self, BadWeb("web"), far_weights, web, None, None, None, None)
        web = Web(4, row_of(4))
        for signs in no_signs(web, False):
            check_raises(self, BadSigns("signs"), far_weights, web, signs, None, None, None)
        for tie in no_integers() + [-1, 3, 10 ** 70]:
            check_raises(self, NoTie(tie), far_weights, web, [1, 1, 1], tie, None, None)
            check_raises(self, NoTie(tie), far_weights, web, [1, 1, 1], 2, tie, None)
        for steps in no_integers() + [-1, 61, 10 ** 70]:
            check_raises(self, BadNumber("steps"), far_weights, web, [1, 1, 1], 0, 0, steps)
        check_raises(self, Misfit("ties"), far_weights, web, [1, 1, 1], 0, 0, 0)
        # Not far and not even: far is told first.
        check_raises(self, Misfit("far"), far_weights, TRIANGLE, [1, 1, -1], 0, 1, 2)


class ShownWeights(unittest.TestCase):
    def test_drawn_weights(self):
        draw = random.Random(133)
        told = {True: 0, False: 0}
        while min(told.values()) < 60:
            web = draw.choice([Web(8, ring_of(4) + ring_of(4, 4)), Web(7, full(3) + full(4, 3)), Web(9, row_of(9)), WIDE])
            signs = drawn_signs(draw, web)
            under = draw.choice([0, 1, 2, 3, 4, 5])
            middle = draw.randint(1, web.places - 1)
            rows = []
            for half in (range(middle), range(middle, web.places)):
                row = [Bound(0, 0, under)] * web.places
                for place in draw.sample(half, draw.randint(0, min(len(half), 5))):
                    row[place] = Bound(draw.randint(-3, 3), draw.choice((0, 0, 1, -1)), under)
                rows.append(draw.choice([list, tuple])(row))
            times = draw.randint(1, 4)
            bound = Bound(draw.randint(-9, 1), draw.choice((0, 1, -1)), under)
            wanted = do_hold(web, signs, times, bound, rows)
            told[wanted] += 1
            check_same(self, shows_weights(web, signs, times, bound, Weights(*rows)), wanted)
            check_same(self, shows_weights(value=Weights(*rows[::-1]), bound=bound, times=times, signs=signs, web=web), wanted)

    def test_bounds_just_held(self):
        # On a triangle with weights 1, root c and 2, and on another one: the squares are 5 + c.
        web = Web(6, ring_of(3) + ring_of(3, 3))
        for under, sign in itertools.product((2, 3, 5, 7), (1, -1)):
            root, zero = Bound(0, 1, under), Bound(0, 0, under)
            row = (Bound(1, 0, under), root, Bound(2, 0, under))
            weights = Weights(row + (zero,) * 3, (zero,) * 3 + row)
            # The sum over the ties, times 2: 2 (root c + 2 + 2 root c).
            just = Bound(4 * sign, 6 * sign, under)
            for bound, wanted in ((just, True), (beside(just, under, 1), False), (beside(just, under, -1), True)):
                check_same(self, shows_weights(web, [sign] * 6, 5 + under, bound, weights), wanted)
                check_same(self, do_hold(web, [sign] * 6, 5 + under, bound, weights.parts), wanted)
            for times in (1, 4 + under, 6 + under):
                bound = Bound(4 * sign, 6 * sign, under)
                wanted = (times >= 5 + under) if sign == 1 else (times <= 5 + under)
                check_same(self, shows_weights(web, [sign] * 6, times, bound, weights), wanted)

    def test_a_weight_that_is_a_little_more_or_less(self):
        signs = turned_about(WIDE, [1] * 24, 8)
        bound = second_bound(3, 1)
        right = far_weights(WIDE, signs, 2, 10, 1)
        for place in range(16):
            for change in (beside(Bound(0, 0, 2), 2, 1), Bound(1, 0, 2), Bound(-1, 0, 2), Bound(0, 1, 2)):
                bent = with_weight(right.first, place, added(right.first[place], change))
                wanted = do_hold(WIDE, signs, 2, bound, (bent, right.second))
                check_same(self, shows_weights(WIDE, signs, 2, bound, Weights(bent, right.second)), wanted)
                check_same(self, shows_weights(WIDE, signs, 2, bound, Weights(right.second, bent)), wanted)

    def test_numbers_that_are_zero(self):
        # 2 - root 4 is 0, and so is 1 root 0.
        web = Web(4, [(0, 1), (1, 2), (2, 3)])
        for none in (Bound(2, -1, 4), Bound(-2, 1, 4), Bound(0, 0, 4)):
            one = Bound(1, 0, 4)
            row, other = (one, none, none, none), (none, none, one, none)
            check_same(self, shows_weights(web, [1] * 3, 1, Bound(0, 0, 4), Weights(row, other)), True)
            check_same(self, shows_weights(web, [1] * 3, 1, Bound(1, 0, 4), Weights(row, other)), False)
            check_same(self, shows_weights(web, [1] * 3, 1, Bound(-9, 0, 4), Weights(row, (none,) * 4)), False)
            check_same(self, shows_weights(web, [1] * 3, 1, Bound(-9, 0, 4), Weights((none,) * 4, row)), False)
            check_same(self, shows_weights(web, [1] * 3, 1, Bound(-9, 0, 4), Weights(row, row)), False)
            check_same(self, shows_weights(web, [1] * 3, 1, Bound(-9, 0, 4), Weights(row, (none, one, none, none))), False)
        zero, one = Bound(0, 7, 0), Bound(1, -3, 0)
        check_same(self, shows_weights(web, [1] * 3, 1, Bound(0, 5, 0), Weights((one, zero, zero, zero), (zero, zero, zero, one))), True)

    def test_unders_and_lengths(self):
        signs = [1] * 24
        right = far_weights(WIDE, signs, 2, 10, 1)
        bound = Bound(1, 0, 2)
        check_same(self, shows_weights(WIDE, signs, 2, bound, right), True)
        for under in (0, 1, 3, 4, 8):
            # Its part is 0, but it has another under.
            check_same(self, shows_weights(WIDE, signs, 2, Bound(1, 0, under), right), False)
            for place in (0, 3, 7, 15):
                bent = with_weight(right.first, place, Bound(right.first[place].whole, right.first[place].part, under))
                check_same(self, shows_weights(WIDE, signs, 2, bound, Weights(bent, right.second)), False)
                bent = with_weight(right.second, place, Bound(right.second[place].whole, right.second[place].part, under))
                check_same(self, shows_weights(WIDE, signs, 2, bound, Weights(right.first, bent)), False)
        zero = Bound(0, 0, 2)
        for first, second in ((right.first[:-1], right.second), (right.first, right.second + (zero,)), (right.first, right.second[1:]),
                              ((), ()), (right.first, ()), (right.first + (zero,), right.second + (zero,))):
            check_same(self, shows_weights(WIDE, signs, 2, bound, Weights(first, second)), False)

    def test_rows_that_are_bent(self):
        right = far_weights(WIDE, [1] * 24, 2, 10, 1)
        bound = Bound(1, 0, 2)
        for value in no_kind(Bound) + [(0, 0, 2), "0 0 2"]:
            for place in (0, 6, 15):
                check_same(self, shows_weights(WIDE, [1] * 24, 2, bound, Weights(with_weight(right.first, place, value), right.second)), False)
                check_same(self, shows_weights(WIDE, [1] * 24, 2, bound, Weights(right.first, with_weight(right.second, place, value))), False)
        for row in no_integers() + [0, 1, dict(enumerate(right.first)), [right.first], "0" * 16]:
            check_same(self, shows_weights(WIDE, [1] * 24, 2, bound, Weights(row, right.second)), False)
            check_same(self, shows_weights(WIDE, [1] * 24, 2, bound, Weights(right.first, row)), False)

    def test_other_values(self):
        right = far_weights(WIDE, [1] * 24, 2, 10, 1)
        for value in no_integers() + [0, Weights, right.parts, right.first, Paper("weights", *right.parts), Denial("weights", *right.parts),
                                      Strange()]:
            check_same(self, shows_weights(WIDE, [1] * 24, 2, Bound(1, 0, 2), value), False)

    def test_any_web(self):
        # The places have unlike numbers of ties; a web of 60 places and one without ties.
        one, zero = Bound(1, 0, 3), Bound(0, 0, 3)
        web = Web(60, row_of(30) + full(30, 30))
        rows = ((one,) * 29 + (zero,) * 31, (zero,) * 31 + (one,) * 29)
        signs = [1] * len(web.ties)
        # 28 ties by 29 squares, and 28 by 1.
        for bound, wanted in ((Bound(56, 0, 3), True), (Bound(57, 0, 3), False)):
            check_same(self, shows_weights(web, signs, 29, bound, Weights(*rows)), wanted)
        rows = ((one, zero), (zero, one))
        for bound, wanted in ((Bound(0, 0, 3), True), (Bound(-1, 0, 3), True), (Bound(-1, 1, 3), False), (Bound(1, -1, 3), True)):
            check_same(self, shows_weights(Web(2, []), [], 7, bound, Weights(*rows)), wanted)
            check_same(self, shows_weights(Web(2, [(0, 1)]), [1], 7, bound, Weights(*rows)), False)

    def test_long_integers(self):
        far = 10 ** 4999
        under = 10 ** 64 + 57
        one, zero = Bound(far, far - 1, under), Bound(0, 0, under)
        web = Web(60, full(30) + full(30, 30))
        rows = ((one,) * 30 + (zero,) * 30, (zero,) * 30 + (one,) * 30)
        for whole, wanted in ((29, True), (30, False)):
            check_same(self, shows_weights(web, [1] * len(web.ties), 10 ** 64, Bound(whole * 10 ** 64, 0, under), Weights(*rows)), wanted)

    def test_wrong_arguments_in_their_order(self):
        for web in no_kind(Web):
            check_raises(self, BadWeb("web"), shows_weights, web, None, None, None, None)
        for signs in no_signs(SQUARE, False):
            check_raises(self, BadSigns("signs"), shows_weights, SQUARE, signs, None, None, None)
        for times in no_integers() + [0, -1]:
            check_raises(self, BadNumber("times"), shows_weights, SQUARE, [1] * 4, times, None, None)
        for bound in no_kind(Bound):
            check_raises(self, BadBound("bound"), shows_weights, SQUARE, [1] * 4, 1, bound, Weights([], []))

    def test_papers(self):
        paper = Weights([TWO, [1]], second="no")
        self.assertEqual((paper.word, paper.parts, paper.first, paper.second), ("weights", ((TWO, (1,)), "no"), (TWO, (1,)), "no"))
        self.assertEqual((Weights.__bases__, bool(paper)), ((Paper,), True))
        self.assertEqual(Weights(first=[TWO], second=()), Weights((TWO,), []))


if __name__ == "__main__":
    unittest.main()
