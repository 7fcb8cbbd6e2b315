"""Ways from a place, their tree, and what is left over of it."""

import random
import unittest

from goodsigns.errors import BadWeb, Misfit, NoPlace, TooMany
from goodsigns.pairings import pairing_poly
from goodsigns.polys import Poly, times
from goodsigns.ways import left_over, tree_of_ways, ways_from
from goodsigns.webs import Web, is_joined, without
from helpers import (across, bush_of, check_raises, drawn_tree, drawn_web, full, no_integers, no_kind, raised, ring_of,
                     row_of)

# From place 0 there are just 60 ways, and 61: the ring has 59, a place tied to the first or to another one has one or two.
JUST = Web(31, ring_of(30) + [(0, 30)])
MORE = Web(31, ring_of(30) + [(7, 30)])


def ways_by_steps(web, place):
    """All ways from a place, found one from the other and sorted at last."""
    found = [(place,)]
    for way in found:
        found += [way + (near,) for near in range(web.places) if (min(way[-1], near), max(way[-1], near)) in web.ties
                  and near not in way]
    return tuple(sorted(found, key=lambda way: (len(way), way)))


class Ways(unittest.TestCase):
    def test_drawn_webs(self):
        draw = random.Random(61)
        told = 0
        for _ in range(80):
            web = drawn_web(draw, draw.randint(1, 7), draw.choice([0.2, 0.4, 0.6]))
            place = draw.randrange(web.places)
            wanted = ways_by_steps(web, place)
            if len(wanted) > 60:
                check_raises(self, TooMany("ways", 60), ways_from, web, place)
                check_raises(self, TooMany("ways", 60), tree_of_ways, web, place)
                continue
            told += 1
            found = ways_from(web=web, place=place)
            self.assertEqual((type(found), found), (tuple, wanted))
            self.check_tree(web, place, found)
        self.assertGreater(told, 30)

    def check_tree(self, web, place, ways):
        tree = tree_of_ways(web=web, place=place)
        self.assertIs(type(tree), Web)
        wanted = Web(len(ways), [(ways.index(way[:-1]), at) for at, way in enumerate(ways) if at])
        self.assertEqual(tree, wanted)

    def test_no_neighbours(self):
        for web, place in ((Web(1, []), 0), (Web(60, []), 59), (Web(4, [(0, 1)]), 3)):
            self.assertEqual(ways_from(web, place), ((place,),))
            self.assertEqual(tree_of_ways(web, place), Web(1, []))

    def test_just_60_ways_and_61(self):
        self.assertEqual(len(ways_from(JUST, 0)), 60)
        self.assertEqual(tree_of_ways(JUST, 0).places, 60)
        for function in (ways_from, tree_of_ways):
            check_raises(self, TooMany("ways", 60), function, MORE, 0)
            check_raises(self, TooMany("ways", 60), function, Web(60, full(60)), 59)
            check_raises(self, TooMany("ways", 60), function, Web(60, across(30, 30)), 0)
        self.assertEqual(ways_from(Web(60, row_of(60)), 0)[-1], tuple(range(60)))
        self.assertEqual(len(ways_from(Web(60, row_of(60)), 31)), 60)
        self.assertEqual(len(ways_from(Web(60, bush_of(60, 59)), 8)), 60)

    def test_trees_are_their_own_trees_of_ways(self):
        draw = random.Random(62)
        for _ in range(10):
            web = drawn_tree(draw, draw.randint(2, 60))
            ways = ways_from(web, draw.randrange(web.places))
            self.assertEqual(sorted([way[-1] for way in ways]), list(range(web.places)))

    def test_wrong_arguments_in_their_order(self):
        for function in (ways_from, tree_of_ways, left_over):
            for value in no_kind(Web):
                check_raises(self, BadWeb("web"), function, value, None)
            for value in no_integers() + [-1, 3, 10 ** 70]:
                check_raises(self, NoPlace(value), function, Web(3, [(0, 1)]), value)
            check_raises(self, NoPlace(60), function, Web(60, full(60)), 60)


class LeftOver(unittest.TestCase):
    def check_left_over(self, web, place):
        found = left_over(web=web, place=place)
        tree = tree_of_ways(web, place)
        self.assertIs(type(found), Poly)
        self.assertEqual(times(found, pairing_poly(web)), pairing_poly(tree))
        if web.places > 1:
            self.assertEqual(times(found, pairing_poly(without(web, [place]))), pairing_poly(without(tree, [0])))

    def test_drawn_webs(self):
        draw = random.Random(63)
        told = 0
        while told < 25:
            web = drawn_web(draw, draw.randint(1, 7), draw.choice([0.3, 0.4, 0.5]))
            place = draw.randrange(web.places)
            if is_joined(web) and not raised(ways_from, web, place):
                self.check_left_over(web, place)
                told += 1

    def test_rings(self):
        # The tree is a row of 2 n - 1 places, with the ring's pairing poly as one factor; the other is that of a row.
        for places in range(3, 17):
            web = Web(places, ring_of(places))
            for place in (0, places // 2, places - 1):
                self.assertEqual(left_over(web, place), pairing_poly(Web(places - 1, row_of(places - 1))))

    def test_trees(self):
        draw = random.Random(64)
        for places in (1, 2, 3, 17, 40, 60):
            web = drawn_tree(draw, places)
            self.assertEqual(left_over(web, draw.randrange(places)).numbers, (1,))

    def test_webs_of_16_places(self):
        self.check_left_over(Web(16, ring_of(13) + [(0, 13), (13, 14), (3, 15)]), 0)
        self.check_left_over(Web(16, ring_of(4) + ring_of(4, 8) + row_of(5, 3) + row_of(5, 11) + [(0, 8)]), 15)
        self.check_left_over(Web(16, across(2, 5) + row_of(10, 6)), 15)

    def test_errors_in_their_order(self):
        check_raises(self, Misfit("web"), left_over, Web(2, []), 1)
        check_raises(self, Misfit("web"), left_over, Web(60, full(59)), 0)
        check_raises(self, Misfit("web"), left_over, Web(17, ring_of(16)), 16)
        check_raises(self, NoPlace(17), left_over, Web(17, ring_of(16)), 17)
        check_raises(self, TooMany("places", 16), left_over, Web(17, ring_of(17)), 0)
        check_raises(self, TooMany("places", 16), left_over, MORE, 0)
        check_raises(self, TooMany("places", 16), left_over, Web(60, full(60)), 0)
        check_raises(self, TooMany("ways", 60), left_over, Web(16, full(16)), 0)
        check_raises(self, TooMany("ways", 60), left_over, Web(6, full(6)), 5)


if __name__ == "__main__":
    unittest.main()
