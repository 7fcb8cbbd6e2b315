"""Webs: ties, neighbours, pieces, parts, sides, texts."""

import itertools
import random
import unittest

from goodsigns.errors import BadNumber, BadText, BadWeb, Misfit, NoPlace, Twice
from goodsigns.webs import (OddRing, Sides, Web, is_joined, pieces, shows_two_sides, two_sides, without)
from helpers import (Strange, check_raises, check_same, drawn_web, no_integer_lists, no_integers, no_kind, reached,
                     ring_of)

FULL = Web(60, list(itertools.combinations(range(60), 2)))


def markings(web):
    """All markings with 0 and 1 that are unlike at both places of each tie, and 0 at the first of each piece."""
    firsts = {reached(web, place)[0] for place in range(web.places)}
    rows = itertools.product((0, 1), repeat=web.places)
    return [row for row in rows if all(row[a] != row[b] for a, b in web.ties) and not any(row[place] for place in firsts)]


def odd_rings(web):
    """All rings with an odd number of places, from every place and either way round."""
    found = set()
    for many in range(3, web.places + 1, 2):
        for ring in itertools.permutations(range(web.places), many):
            steps = zip(ring, ring[1:] + ring[:1])
            if all((min(step), max(step)) in web.ties for step in steps):
                found.add(ring)
    return found


class Webs(unittest.TestCase):
    def test_attributes(self):
        web = Web(5, [[3, 1], (0, 4), (1, 0)])
        self.assertEqual((web.places, web.ties, web.most), (5, ((0, 1), (0, 4), (1, 3)), 2))
        self.assertTrue(all([type(tie) is tuple for tie in web.ties]))
        self.assertEqual([web.neighbours(place) for place in range(5)], [(1, 4), (0, 3), (), (1,), (0,)])
        self.assertEqual(web.neighbours(place=0), (1, 4))
        for told in ([], ()):
            self.assertEqual((Web(1, told).ties, Web(60, told).most), ((), 0))
        self.assertEqual((len(FULL.ties), FULL.most), (1770, 59))
        self.assertEqual(Web(ties=[(1, 0)], places=2).ties, ((0, 1),))

    def test_drawn_webs(self):
        draw = random.Random(14)
        for _ in range(40):
            web = drawn_web(draw, draw.randint(1, 9), draw.random())
            rows = [tuple(sorted([sum(tie) - place for tie in web.ties if place in tie])) for place in range(web.places)]
            self.assertEqual([web.neighbours(place) for place in range(web.places)], rows)
            self.assertEqual(web.most, max([len(row) for row in rows]))
            self.assertEqual(list(web.ties), sorted(web.ties))

    def test_what_is_passed_is_copied(self):
        ties = [[1, 0], [2, 1]]
        web = Web(3, ties)
        self.assertEqual(ties, [[1, 0], [2, 1]])
        ties[0][0] = 2
        ties.append([0, 2])
        self.assertEqual((web.ties, web.neighbours(0)), (((0, 1), (1, 2)), (1,)))

    def test_equality(self):
        web = Web(3, [(0, 1), (1, 2)])
        check_same(self, web == Web(3, ((2, 1), [1, 0])), True)
        for other in (Web(4, [(0, 1), (1, 2)]), Web(3, [(0, 1)]), Web(3, [(0, 1), (0, 2)])):
            check_same(self, web == other, False)
            check_same(self, web != other, True)
        for other in no_kind(Web):
            check_same(self, web == other, False)

    def test_wrong_places(self):
        for value in no_integers() + [0, 61, -1, 10 ** 50]:
            check_raises(self, BadNumber("places"), Web, value, [])
            check_raises(self, BadNumber("places"), Web, value, None)

    def test_wrong_ties(self):
        for value in no_integers() + [0, 1]:
            if value not in ([], ()) or isinstance(value, Strange):
                check_raises(self, BadWeb("ties"), Web, 3, value)
            check_raises(self, BadWeb("ties"), Web, 3, [value])
            check_raises(self, BadWeb("ties"), Web, 3, [(0, 1), (0, 9), value])
        for value in no_integers():
            check_raises(self, BadWeb("ties"), Web, 3, [(0, value)])
            check_raises(self, BadWeb("ties"), Web, 3, [(5, 5), [value, 0]])
        for value in ((0,), (0, 1, 2), "01", {0, 1}, {0: 1, 1: 0}):
            check_raises(self, BadWeb("ties"), Web, 3, [value])

    def test_ties_in_their_order(self):
        cases = [([(0, 3)], NoPlace(3)), ([(3, 0)], NoPlace(3)), ([(-1, 4)], NoPlace(-1)), ([(4, -1)], NoPlace(4)),
                 ([(3, 3)], NoPlace(3)), ([(2, 2)], Misfit("tie")), ([(0, 1), (0, 1)], Twice((0, 1))),
                 ([(2, 1), [1, 2]], Twice((1, 2))), ([(0, 1), (2, 2), (9, 9)], Misfit("tie")),
                 ([(0, 1), (1, 0), (2, 2)], Twice((0, 1))), ([(0, 1), (9, 0), (0, 1)], NoPlace(9)),
                 ([(1, 1), (0, 3)], Misfit("tie")), ([(0, 10 ** 70)], NoPlace(10 ** 70))]
        for ties, error in cases:
            check_raises(self, error, Web, 3, ties)
            check_raises(self, error, Web, 3, tuple(ties))

    def test_wrong_neighbours(self):
        web = Web(3, [(0, 1)])
        for value in no_integers() + [-1, 3, 10 ** 90]:
            found = None
            try:
                web.neighbours(value)
            except NoPlace as error:
                found = error
            self.assertIs(found.value, value)


class Pieces(unittest.TestCase):
    def test_pieces(self):
        draw = random.Random(15)
        for _ in range(60):
            web = drawn_web(draw, draw.randint(1, 12), draw.choice([0, 0.1, 0.2, 0.5]))
            wanted = tuple(sorted({reached(web, place) for place in range(web.places)}))
            self.assertEqual(pieces(web=web), wanted)
            check_same(self, is_joined(web=web), len(wanted) == 1)
        self.assertEqual(pieces(Web(3, [])), ((0,), (1,), (2,)))
        self.assertEqual(pieces(FULL), (tuple(range(60)),))
        self.assertIs(is_joined(Web(1, [])), True)

    def test_without(self):
        draw = random.Random(16)
        for _ in range(60):
            web = drawn_web(draw, draw.randint(2, 9), 0.5)
            gone = draw.sample(range(web.places), draw.randint(0, web.places - 1))
            staying = [place for place in range(web.places) if place not in gone]
            ties = [(a, b) for a, b in itertools.combinations(range(len(staying)), 2) if (staying[a], staying[b]) in web.ties]
            self.assertEqual(without(web, gone), Web(len(staying), ties))
            self.assertEqual(without(gone=tuple(gone), web=web), Web(len(staying), ties))
        self.assertEqual(str(without(FULL, list(range(58)))), "2 : 0 1")

    def test_without_errors_in_their_order(self):
        web = Web(3, [(0, 1)])
        for value in no_integer_lists() + [0]:
            check_raises(self, BadNumber("gone"), without, web, value)
        cases = [([3], NoPlace(3)), ([-1], NoPlace(-1)), ([0, 0, 7], NoPlace(7)), ([0, 1, 2, 3], NoPlace(3)), ([8, 9], NoPlace(8)),
                 ([1, 2, 2, 1], Twice(2)), ([0, 1, 2, 0], Twice(0)), ([2, 1, 0], Misfit("gone")), ((0, 1, 2), Misfit("gone"))]
        for gone, error in cases:
            check_raises(self, error, without, web, gone)
        gone = [2, 0]
        without(web, gone)
        self.assertEqual(gone, [2, 0])

    def test_wrong_webs(self):
        for value in no_kind(Web):
            for function in (pieces, is_joined, two_sides):
                check_raises(self, BadWeb("web"), function, value)
            check_raises(self, BadWeb("web"), without, value, value)
            for paper in (value, OddRing([0, 1, 2]), Sides([0])):
                check_raises(self, BadWeb("web"), shows_two_sides, value, paper)


class TwoSides(unittest.TestCase):
    def check_sides(self, web):
        found, marks = two_sides(web), markings(web)
        self.assertLessEqual(len(marks), 1)
        if marks:
            self.assertEqual(found, Sides(marks[0]))
            self.assertIs(type(found.marks), tuple)
        else:
            self.assertIs(type(found), OddRing)
            self.assertIn(found.ring, odd_rings(web))
        self.assertIs(bool(found), bool(marks))
        check_same(self, shows_two_sides(web, found), True)

    def test_drawn_webs(self):
        draw = random.Random(17)
        for _ in range(80):
            self.check_sides(drawn_web(draw, draw.randint(1, 7), draw.choice([0, 0.2, 0.35, 0.6])))

    def test_rings(self):
        for places in range(3, 9):
            self.check_sides(Web(places, ring_of(places)))
            # Behind a piece of two places and one alone.
            self.check_sides(Web(places + 1, [(0, 1)] + [(0, place) for place in range(2, places + 1)]))
        for places in (57, 59):
            web = Web(60, ring_of(places, 1))
            self.assertEqual(sorted(two_sides(web).ring), list(range(1, places + 1)))
            self.assertTrue(shows_two_sides(web, two_sides(web)))
        self.assertEqual(two_sides(Web(60, ring_of(58))).marks, (0, 1) * 29 + (0, 0))
        self.assertEqual(len(two_sides(FULL).ring), 3)

    def test_a_later_piece_with_an_odd_ring(self):
        web = Web(9, ring_of(4) + ring_of(5, 4))
        self.assertEqual(sorted(two_sides(web=web).ring), [4, 5, 6, 7, 8])
        self.check_sides(Web(7, [(3, 1), (5, 2), (6, 5)]))

    def test_every_odd_ring_is_right_and_nothing_else(self):
        web = Web(6, ring_of(5) + [(0, 2), (3, 5)])
        right = odd_rings(web)
        self.assertEqual(len(right), 6 + 10)
        for many in range(6):
            for ring in itertools.permutations(range(6), many):
                check_same(self, shows_two_sides(web, OddRing(list(ring))), ring in right)
        check_same(self, shows_two_sides(value=OddRing([2, 1, 0]), web=web), True)
        for ring in ((0, 1, 2, 0, 1, 2), (0, 1, 2, 0, 1), (0, 1, 6), (0, 1, -4), (0, True, 2), (0.0, 1, 2), (0, 1, "2"), ((0, 1, 2),),
                     (0, 1, [2]), {0: 1, 1: 2, 2: 0}, "012", 3, None, Strange(), (0, 1, 10 ** 30)):
            check_same(self, shows_two_sides(web, OddRing(ring)), False)

    def test_even_rings_are_not_odd(self):
        web = Web(5, ring_of(4) + [(0, 2)])
        check_same(self, shows_two_sides(web, OddRing([0, 1, 2, 3])), False)
        check_same(self, shows_two_sides(web, OddRing([0, 1, 2])), True)
        check_same(self, shows_two_sides(Web(4, ring_of(4)), OddRing([0, 1, 2, 3])), False)

    def test_sides_that_are_bent(self):
        web = Web(5, ring_of(4))
        self.assertTrue(shows_two_sides(web, Sides([0, 1, 0, 1, 0])))
        for at in range(5):
            for bent in (1 - at % 2 if at < 4 else 1, bool(at % 2), 2, None, Strange(), float(at % 2 if at < 4 else 0)):
                marks = [0, 1, 0, 1, 0]
                marks[at] = bent
                check_same(self, shows_two_sides(web, Sides(marks)), False)
        for marks in ((1, 0, 1, 0, 0), (0, 1, 0, 1), (0, 1, 0, 1, 0, 0), (), 0, None, "01010", Strange()):
            check_same(self, shows_two_sides(web, Sides(marks)), False)
        triangle = Web(3, ring_of(3))
        for marks in itertools.product((0, 1), repeat=3):
            check_same(self, shows_two_sides(triangle, Sides(marks)), False)

    def test_other_values_are_no_papers(self):
        for web in (Web(3, ring_of(3)), Web(2, [])):
            for value in no_integers() + [0, (0, 0), [0, 1, 2]]:
                check_same(self, shows_two_sides(web, value), False)


class Texts(unittest.TestCase):
    def test_text_and_read(self):
        draw = random.Random(18)
        webs = [drawn_web(draw, draw.randint(1, 12), draw.random()) for _ in range(60)]
        for web in webs + [Web(1, []), Web(60, []), FULL, Web(60, ring_of(60))]:
            text = f"{web.places} :" + "".join([f" {one} {other}" for one, other in web.ties])
            self.assertEqual(str(web), text)
            self.assertEqual(Web.read(text), web)
        self.assertEqual(FULL.read(text="2 : 0 1"), Web(2, [(0, 1)]))

    def test_read_of_no_string(self):
        for value in no_integers() + [0, 2]:
            if not isinstance(value, str):
                check_raises(self, BadText(0, 0), Web.read, value)

    def test_items_that_cannot_stand(self):
        cases = [("", 0), ("0 :", 0), ("61 :", 0), ("-1 :", 0), ("04 :", 0), ("+4 :", 0), ("x", 0), (" 4 :", 0), ("4", 1), ("4 ", 1),
                 ("4 0 1", 1), ("4  : 0 1", 1), ("4 :: 0 1", 1), ("4: 0 1", 0), ("4 :0 1", 1), ("4 : ", 2), ("4 : 0", 3),
                 ("4 : 0 ", 3), ("4 : 0 1 ", 4), ("4 :  0 1", 2), ("4 : 4 5", 2), ("4 : -1 2", 2), ("4 : 0 0", 3), ("4 : 1 0", 3),
                 ("4 : 0 4", 3), ("4 : 0 -1", 3), ("4 : 00 1", 2), ("4 : 0 01", 3), ("4 : 0 1 0 1", 5), ("4 : 0 2 0 1", 5),
                 ("4 : 1 2 0 3", 4), ("4 : 1 2 1 3 0 3", 6), ("4 : 1 2 2 2", 5), ("4 : 0 3 1 2 1 3 2 3 2 3", 11),
                 ("4 : 0 1 x 9", 4), ("4 : 0 1 0 x", 5), ("4 : 0 1 : 2", 4), ("4 : 0 1\n", 3), ("1 : 0 0", 3), ("1 : 1", 2),
                 ("4 : 0 1 0 2 0 3 0 4", 9), ("60 : 0 60", 3), ("60 : 58 59 58 59", 5)]
        for text, item in cases:
            check_raises(self, BadText(0, item), Web.read, text)

    def test_a_first_place_that_leaves_no_second_one_can_stand(self):
        # Behind it the second one is missing, or what stands there cannot.
        for text in ("4 : 3", "4 : 0 3 0", "1 : 0", "4 : 2 3 2", "4 : 2 3 3"):
            item = len(text.split(" "))
            check_raises(self, BadText(0, item), Web.read, text)
            check_raises(self, BadText(0, item), Web.read, text + " 3")
            check_raises(self, BadText(0, item), Web.read, text + " 0 1")


if __name__ == "__main__":
    unittest.main()
