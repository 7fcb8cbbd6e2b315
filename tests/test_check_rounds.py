"""Which papers of good_round are right."""

import itertools
import random
import unittest

from goodsigns.bounds import Bound
from goodsigns.check_rounds import shows_good_round
from goodsigns.errors import BadBound, BadNumber
from goodsigns.papers import Denial, Paper
from goodsigns.polys import Poly
from goodsigns.reals import SomeAbove, within
from goodsigns.rounds import GoodRound, Round, RoundTooGreat, good_round, mean_rest
from helpers import Strange, beside, bounds_about, check_raises, check_same, no_integers, no_kind, rest_numbers

RIGHT = [[1, 2, 0], [0, 1, 2]]
TWO, THREE = Bound(2, 0, 0), Bound(3, 0, 0)


class RoundPapers(unittest.TestCase):
    def test_drawn_rounds(self):
        draw = random.Random(191)
        told = {True: 0, False: 0}
        for size, many in itertools.product(range(1, 6), repeat=2):
            for _ in range(10):
                renamings = [draw.sample(range(size), size) for _ in range(many)]
                rest = Poly(rest_numbers(renamings))
                bounds = [Bound(many, 0, 0), Bound(4 * (many - 1), 0, 0), Bound(many * many, 0, 0), Bound(-1, 1, 2)]
                for bound in bounds + list(bounds_about(rest) if size > 1 else []):
                    wanted = bool(within(rest, bound))
                    told[wanted] += 1
                    check_same(self, shows_good_round(size, many, bound, GoodRound(renamings)), wanted)
                    check_same(self, shows_good_round(value=GoodRound(tuple(renamings[::-1])), bound=bound, many=many, size=size), wanted)
        self.assertGreater(min(told.values()), 200)

    def test_any_order(self):
        found = good_round(4, 4, Bound(12, 0, 0)).renamings
        for renamings in itertools.permutations(found):
            check_same(self, shows_good_round(4, 4, Bound(12, 0, 0), GoodRound(list(renamings))), True)

    def test_a_mean_rest_that_is_not_within(self):
        # The mean rest of three places and two renamings, x^2 - 4 x + 3, is not within 2.
        self.assertFalse(good_round(3, 2, TWO))
        for one, other in itertools.product(itertools.permutations(range(3)), repeat=2):
            apart = all([a != b for a, b in zip(one, other)])
            check_same(self, shows_good_round(3, 2, TWO, GoodRound([one, other])), apart)
            check_same(self, shows_good_round(3, 2, Bound(1, 0, 0), GoodRound([one, other])), apart)
            check_same(self, shows_good_round(3, 2, beside(Bound(1, 0, 0), 2, -1), GoodRound([one, other])), False)
        for power in range(4):
            check_same(self, shows_good_round(3, 2, TWO, RoundTooGreat(power)), power == 0)
            check_same(self, shows_good_round(3, 2, THREE, RoundTooGreat(power)), False)
            check_same(self, shows_good_round(3, 2, beside(THREE, 2, -1), RoundTooGreat(power)), power == 0)

    def test_renamings_that_are_bent(self):
        check_same(self, shows_good_round(3, 2, TWO, GoodRound(RIGHT)), True)
        far = Bound(99, 0, 0)
        bad = [[[1, 2, 0]], RIGHT + [[0, 1, 2]], [[1, 2, 0], [0, 1]], [[1, 0], [0, 1]], [[0], [0]], [[1, 2, 3], [0, 1, 2]], [], [[], []], [RIGHT],
               [[0, 1, 2, 3], [1, 2, 3, 0]], [[1, 1, 0], [0, 1, 2]], ["120", "012"], {0: RIGHT[0], 1: RIGHT[1]}, RIGHT[0], "012"]
        for at, place in itertools.product(range(2), range(3)):
            for value in no_integers() + [3, -1, 10 ** 70, float(RIGHT[at][place]), [RIGHT[at][place]]]:
                renamings = [list(each) for each in RIGHT]
                renamings[at][place] = value
                bad.append(renamings)
        for value in no_integers() + [0, 1]:
            bad += [value, [value, RIGHT[1]], [RIGHT[0], value]]
        for renamings in bad:
            check_same(self, shows_good_round(3, 2, far, GoodRound(renamings)), False)
        for size, many in itertools.product(range(1, 6), repeat=2):
            check_same(self, shows_good_round(size, many, far, GoodRound(RIGHT)), (size, many) == (3, 2))

    def test_denials(self):
        told = {True: 0, False: 0}
        for size, many in itertools.product(range(1, 6), repeat=2):
            first = mean_rest(Round([list(range(size))]), many - 1)
            for bound in [Bound(whole, 0, 0) for whole in (-1, 0, 1, 2, 4)] + list(bounds_about(first) if size > 1 else []):
                found = within(first, bound)
                told[bool(found)] += 1
                for power in range(size + 1):
                    check_same(self, shows_good_round(size, many, bound, RoundTooGreat(power)), not found and found.power == power)
                check_same(self, shows_good_round(size, many, bound, good_round(size, many, bound)), True)
        self.assertGreater(min(told.values()), 20)
        for power in no_integers() + [1, -1, 10 ** 70, [0], 0.0]:
            check_same(self, shows_good_round(3, 2, TWO, RoundTooGreat(power)), False)

    def test_other_values(self):
        for value in no_integers() + [0, RIGHT, Round(RIGHT), Paper("goodround", RIGHT), Denial("roundtoogreat", 0), SomeAbove(0), GoodRound,
                                      RoundTooGreat, Strange()]:
            for bound in (TWO, THREE):
                check_same(self, shows_good_round(3, 2, bound, value), False)

    def test_wrong_arguments_in_their_order(self):
        for value in (None, GoodRound([[0]]), RoundTooGreat(0), Strange()):
            for wrong in no_integers() + [0, 6, -1, 10 ** 70]:
                check_raises(self, BadNumber("size"), shows_good_round, wrong, None, None, value)
                check_raises(self, BadNumber("many"), shows_good_round, 5, wrong, None, value)
            for bound in no_kind(Bound):
                check_raises(self, BadBound("bound"), shows_good_round, 5, 5, bound, value)

    def test_what_is_passed_stays(self):
        paper = GoodRound(RIGHT)
        shows_good_round(3, 2, TWO, paper)
        self.assertEqual((paper.parts, RIGHT), ((((1, 2, 0), (0, 1, 2)),), [[1, 2, 0], [0, 1, 2]]))


if __name__ == "__main__":
    unittest.main()
