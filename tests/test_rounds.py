"""Rounds, their rest polys and mean rests, and good rounds."""

import itertools
import math
import random
import time
import unittest

from goodsigns.bounds import Bound
from goodsigns.errors import BadBound, BadNumber, BadRound, Misfit, TooMany
from goodsigns.papers import Denial, Paper
from goodsigns.polys import Poly, times
from goodsigns.reals import within
from goodsigns.rounds import (GoodRound, Round, RoundTooGreat, good_round, mean_rest, next_renaming, rest_poly, round_bound,
                              round_web)
from goodsigns.signs import sign_poly
from goodsigns.webs import Web
from helpers import Strange, beside, bounds_about, check_raises, check_same, no_integers, no_kind, rest_numbers

BOTH, TWICE, PLAIN = Round([[0, 1], [1, 0]]), Round([(0, 1), (0, 1)]), Round([[0, 1, 2]])


def drawn_renamings(draw, size, many):
    """Renamings, some of them equal to the one ahead."""
    found = []
    for _ in range(many):
        found.append(found[-1] if found and draw.random() < 0.2 else draw.sample(range(size), size))
    return draw.choice([list, tuple])([draw.choice([list, tuple])(each) for each in found])


def mean_by_renamings(renamings, more):
    """The numbers of the mean, in lowest terms, of the rest polys over all ways to put so many renamings behind."""
    size = len(renamings[0])
    sums = [0] * size
    for behind in itertools.product(itertools.permutations(range(size)), repeat=more):
        sums = [total + number for total, number in zip(sums, rest_numbers(list(renamings) + list(behind)))]
    divisor = math.gcd(*sums)
    return tuple([number // divisor for number in sums])


def no_renamings():
    """Values that are no list of 1 to 5 renamings of one number from 1 to 5."""
    inside = [value for value in no_integers() if not isinstance(value, (list, tuple))] + [0, [1], (1,), (), [0, 0], [1, 2], [0, 2], [0, 1, 1],
              [-1, 0], [True, False], [0, True], [0.0, 1], ["0", "1"], [[0], [1]], {0: 0}, "01", [0, None], [0, 10 ** 70], list(range(6))]
    lists = [[[0, 1, 2], [1, 0]], [[0], [0, 1]], [[0, 1]] * 6, [[0, 1, 2, 3, 4, 5]], [[]], [[], []], [], (), [list(range(7))] * 2]
    return no_integers() + [0, 1, "0", [0, 1]] + lists + [[each] for each in inside] + [[[0, 1], each] for each in inside] + [
        (each, (0, 1)) for each in inside]


class Rounds(unittest.TestCase):
    def test_drawn_rounds(self):
        draw = random.Random(181)
        for size, many in itertools.product(range(1, 6), repeat=2):
            for _ in range(6):
                renamings = drawn_renamings(draw, size, many)
                kept = [list(each) for each in renamings]
                found = Round(renamings=renamings)
                self.assertEqual((found.renamings, found.size), (tuple([tuple(each) for each in kept]), size))
                table = [[0] * size for _ in range(size)]
                for each, place in itertools.product(kept, range(size)):
                    table[place][each[place]] += 1
                self.assertEqual(found.table, tuple([tuple(row) for row in table]))
                self.assertEqual([list(each) for each in renamings], kept)

    def test_equality_and_copies(self):
        renamings = [[0, 1], [1, 0]]
        found = Round(renamings)
        renamings[0][0], renamings[1] = 5, None
        self.assertTrue(found == Round(((0, 1), (1, 0))))
        for other in ([[1, 0], [0, 1]], [[0, 1]], [[0, 1], [1, 0], [0, 1]], [[0, 1], [0, 1]], [[0]]):
            check_same(self, found == Round(other), False)
            check_same(self, found != Round(other), True)
        for other in no_kind(Round):
            check_same(self, found == other, False)

    def test_wrong_renamings(self):
        for value in no_renamings():
            check_raises(self, BadRound("renamings"), Round, value)


class Rests(unittest.TestCase):
    def test_rest_polys(self):
        draw = random.Random(182)
        for size, many in itertools.product(range(1, 6), repeat=2):
            for _ in range(4):
                renamings = drawn_renamings(draw, size, many)
                found = rest_poly(laid=Round(renamings))
                self.assertEqual((type(found), found.numbers), (Poly, rest_numbers(renamings)))
                self.assertEqual(found.degree, size - 1)
                self.assertTrue(within(found, Bound(many * many, 0, 0)))
        self.assertEqual(rest_poly(Round([[4, 2, 3, 0, 1]] * 5)).numbers, (1, -100, 3750, -62500, 390625))

    def test_mean_rests_are_means(self):
        draw = random.Random(183)
        for size, many, most in ((1, 1, 4), (1, 3, 2), (2, 1, 4), (2, 2, 3), (3, 1, 3), (3, 2, 2), (3, 3, 2), (4, 1, 2), (4, 4, 1), (5, 1, 1)):
            for more in range(most + 1):
                renamings = drawn_renamings(draw, size, many)
                found = mean_rest(laid=Round(renamings), more=more)
                self.assertEqual((type(found), found.numbers), (Poly, mean_by_renamings(renamings, more)))

    def test_just_5_renamings_together_and_more(self):
        for many, more in itertools.product(range(1, 6), range(5)):
            laid = Round([[1, 2, 0]] * many)
            if many + more <= 5:
                self.assertEqual(mean_rest(laid, more).degree, 2)
            else:
                check_raises(self, TooMany("renamings", 5), mean_rest, laid, more)
        self.assertEqual(mean_rest(Round([list(range(5))]), 4).degree, 4)

    def test_the_bound_of_the_facts(self):
        for size, many in itertools.product(range(1, 6), range(2, 6)):
            self.assertEqual(round_bound(many=many), Bound(4 * (many - 1), 0, 0))
            self.assertTrue(within(mean_rest(Round([list(range(size))]), many - 1), round_bound(many)))

    def test_wrong_arguments_in_their_order(self):
        for laid in no_kind(Round) + [[[0, 1]], ((0, 1),)]:
            check_raises(self, BadRound("laid"), rest_poly, laid)
            check_raises(self, BadRound("laid"), mean_rest, laid, None)
            check_raises(self, BadRound("laid"), round_web, laid)
        for more in no_integers() + [-1, 5, 10 ** 70]:
            check_raises(self, BadNumber("more"), mean_rest, Round([[0]] * 5), more)
        for many in no_integers() + [0, 1, 6, -2, 10 ** 70]:
            check_raises(self, BadNumber("many"), round_bound, many)


class Webs(unittest.TestCase):
    def test_drawn_rounds(self):
        draw = random.Random(184)
        told = {True: 0, False: 0}
        for size, many in itertools.product(range(1, 6), repeat=2):
            for _ in range(20):
                laid = Round(drawn_renamings(draw, size, many))
                agree = any([one[place] == other[place] for one, other in itertools.combinations(laid.renamings, 2) for place in range(size)])
                told[agree] += 1
                if agree:
                    check_raises(self, Misfit("ties"), round_web, laid)
                    continue
                ties = [(place, size + renaming[place]) for renaming in laid.renamings for place in range(size)]
                found = round_web(laid=laid)
                self.assertEqual(found, Web(2 * size, ties))
                # (x^2 - d d) times the rest poly at x^2.
                spread = [number for each in rest_poly(laid).numbers for number in (each, 0)][:-1]
                self.assertEqual(sign_poly(found, [1] * len(ties)), times(Poly([1, 0, -many * many]), Poly(spread)))
        self.assertGreater(min(told.values()), 30)
        self.assertEqual(str(round_web(Round([[0]]))), "2 : 0 1")


class NextRenaming(unittest.TestCase):
    def check_next(self, laid, more, bound):
        """Check the next renaming, and return it, None if the mean rest is not within the bound."""
        if not within(mean_rest(laid, more), bound):
            check_raises(self, Misfit("bound"), next_renaming, laid, more, bound)
            return None
        found = next_renaming(laid=laid, more=more, bound=bound)
        self.assertIs(type(found), tuple)
        for renaming in itertools.permutations(range(laid.size)):
            right = bool(within(mean_rest(Round(laid.renamings + (renaming,)), more - 1), bound))
            if renaming == found:
                self.assertTrue(right)
                return found
            self.assertFalse(right)
        return self.fail("no renaming")

    def test_drawn_rounds(self):
        draw = random.Random(185)
        told = {True: 0, False: 0}
        for size in range(1, 6):
            for many, more in ((1, 1), (2, 1), (1, 2), (3, 1), (2, 2), (4, 1), (1, 4)):
                laid = Round(drawn_renamings(draw, size, many))
                bounds = [Bound(4 * (many + more - 1), 0, 0), Bound((many + more) ** 2, 0, 0), Bound(many + more, 0, 0)]
                bounds += bounds_about(mean_rest(laid, more)) if size > 1 else []
                for bound in bounds:
                    told[self.check_next(laid, more, bound) is None] += 1
        self.assertGreater(min(told.values()), 20)

    def test_bounds_at_above_and_below(self):
        # Of three places the mean rests are x^2 - 4 x + 3 and x^2 - 6 x + 6.
        three, edge = Bound(3, 0, 0), Bound(3, 1, 3)
        for bound, more, wanted in ((three, 1, (1, 2, 0)), (beside(three, 2, 1), 1, (1, 2, 0)), (beside(three, 2, -1), 1, None),
                                    (edge, 2, (1, 2, 0)), (beside(edge, 3, 1), 2, (1, 2, 0)), (beside(edge, 3, -1), 2, None)):
            self.assertEqual(self.check_next(PLAIN, more, bound), wanted)
        self.assertEqual([self.check_next(Round([[0, 1]]), 1, Bound(whole, 0, 0)) for whole in (1, 2, 3, 4)], [None, (1, 0), (1, 0), (0, 1)])
        self.assertEqual(self.check_next(Round([[0]]), 1, Bound(-9, 0, 0)), (0,))

    def test_wrong_arguments_in_their_order(self):
        for laid in no_kind(Round):
            check_raises(self, BadRound("laid"), next_renaming, laid, None, None)
        full = Round([[0, 1]] * 5)
        for more in no_integers() + [0, -1, 5, 10 ** 70]:
            check_raises(self, BadNumber("more"), next_renaming, full, more, None)
        for bound in no_kind(Bound):
            check_raises(self, BadBound("bound"), next_renaming, full, 1, bound)
        for many, more in ((5, 1), (4, 2), (3, 3), (2, 4)):
            check_raises(self, TooMany("renamings", 5), next_renaming, Round([[0, 1]] * many), more, Bound(-1, 0, 0))
        check_raises(self, Misfit("bound"), next_renaming, Round([[0, 1]] * 4), 1, Bound(-1, 0, 0))


class GoodRounds(unittest.TestCase):
    def check_round(self, size, many, bound):
        """Check what good_round tells, and return it."""
        found = good_round(size=size, many=many, bound=bound)
        laid = Round([list(range(size))])
        told = within(mean_rest(laid, many - 1), bound)
        if told:
            for more in range(many - 1, 0, -1):
                laid = Round(laid.renamings + (next_renaming(laid, more, bound),))
            self.assertEqual(found, GoodRound(laid.renamings))
            self.assertTrue(within(rest_poly(Round(found.renamings)), bound))
        else:
            self.assertEqual(found, RoundTooGreat(told.power))
        self.assertEqual(good_round(size, many, bound), found)
        return found

    def test_each_size_and_number(self):
        began = time.perf_counter()
        for size, many in itertools.product(range(1, 6), repeat=2):
            self.assertTrue(self.check_round(size, many, Bound(4 * (many - 1) if many > 1 else 1, 0, 0)))
            for bound in (Bound(many, 0, 0), Bound(0, 0, 0), Bound(0, 2, many)):
                self.check_round(size, many, bound)
        self.assertLess(time.perf_counter() - began, 60)

    def test_bounds_just_about_the_greatest_root(self):
        for size, many in itertools.product(range(2, 6), range(1, 6)):
            below, above = bounds_about(mean_rest(Round([list(range(size))]), many - 1))
            self.assertEqual([bool(self.check_round(size, many, bound)) for bound in (below, above)], [False, True])
        three = Bound(3, 0, 0)
        self.assertEqual([bool(self.check_round(3, 2, bound)) for bound in (three, beside(three, 2, 1), beside(three, 2, -1))], [True, True, False])

    def test_powers(self):
        # Shifted by a bound the mean of two is x^2 - 4 x + 3.
        self.assertEqual([good_round(3, 2, Bound(whole, 0, 0)) for whole in (2, 1, 0, -1)],
                         [RoundTooGreat(0), RoundTooGreat(1), RoundTooGreat(1), RoundTooGreat(1)])

    def test_degree_0(self):
        for many in range(1, 6):
            self.assertEqual(good_round(1, many, Bound(-10 ** 64, 0, 0)), GoodRound([[0]] * many))
        self.assertEqual([good_round(2, 1, Bound(whole, 0, 0)) for whole in (1, 0)], [GoodRound([[0, 1]]), RoundTooGreat(0)])

    def test_wrong_arguments_in_their_order(self):
        for value in no_integers() + [0, 6, -1, 10 ** 70]:
            check_raises(self, BadNumber("size"), good_round, value, None, None)
            check_raises(self, BadNumber("many"), good_round, 5, value, None)
        for bound in no_kind(Bound):
            check_raises(self, BadBound("bound"), good_round, 5, 5, bound)

    def test_papers(self):
        paper, denial = GoodRound([[0, [1]]]), RoundTooGreat(power=[1])
        self.assertEqual((paper.word, paper.parts, paper.renamings), ("goodround", (((0, (1,)),),), ((0, (1,)),)))
        self.assertEqual((denial.word, denial.parts, denial.power), ("roundtoogreat", ((1,),), (1,)))
        self.assertEqual((GoodRound.__bases__, RoundTooGreat.__bases__), ((Paper,), (Denial,)))
        self.assertEqual(GoodRound(renamings=((0,),)), GoodRound([[0]]))
        self.assertEqual((bool(paper), bool(denial), GoodRound(Strange()) == Round([[0]])), (True, False, False))


if __name__ == "__main__":
    unittest.main()
