"""The order in which a sweep leaves the places of a web: on it hangs how long a mean takes."""

import random
import unittest

from goodsigns.sweeps import sweep_order
from goodsigns.webs import Web
from helpers import across, bush_of, drawn_tree, drawn_web, full, ring_of, row_of


def widest_edge(web):
    """The greatest number of places ahead that are tied to places behind, wherever the sweep is."""
    order = sweep_order(web)
    edges = [{near for place in order[:at] for near in web.neighbours(place)} - set(order[:at]) for at in range(len(order))]
    return max([len(edge) for edge in edges])


class Orders(unittest.TestCase):
    def test_each_place_once(self):
        draw = random.Random(121)
        for _ in range(30):
            web = drawn_web(draw, draw.randint(1, 20), draw.choice([0, 0.1, 0.3]))
            self.assertEqual(sorted(sweep_order(web)), list(range(web.places)))

    def test_edges_are_narrow(self):
        ladder = ring_of(12) + ring_of(12, 12) + [(at, at + 12) for at in range(12)]
        cases = [([], 60, 0), (row_of(60), 60, 1), (bush_of(60, 59), 60, 1), (ring_of(60), 60, 2), (across(2, 22), 24, 2),
                 (across(3, 17), 20, 3), (ladder, 24, 4), (full(7) + full(7, 7) + [(6, 7)], 14, 6), (full(16), 16, 15),
                 ([tie for at in range(20) for tie in ring_of(3, 3 * at)], 60, 2)]
        for ties, places, widest in cases:
            self.assertEqual(widest_edge(Web(places, ties)), widest)
            names = random.Random(122).sample(range(places), places)
            self.assertLessEqual(widest_edge(Web(places, [(names[one], names[other]) for one, other in ties])), widest + 1)

    def test_edges_of_trees(self):
        draw = random.Random(123)
        for _ in range(20):
            self.assertLessEqual(widest_edge(drawn_tree(draw, 60)), 7)
        for branches in (2, 3, 4, 7):
            self.assertLessEqual(widest_edge(Web(60, bush_of(60, branches))), 8)


if __name__ == "__main__":
    unittest.main()
