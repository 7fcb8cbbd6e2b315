"""Papers and denials."""

import unittest

from goodsigns.bounds import Bound
from goodsigns.choices import GoodSigns, NoSigns, TooGreat
from goodsigns.covers import AlikeCovers, UnlikeCovers
from goodsigns.edges import Weights
from goodsigns.lots import Lots, LotsTooGreat
from goodsigns.papers import Denial, Paper, fixed, is_same_paper
from goodsigns.reals import AllReal, NoneAbove, NotReal, SomeAbove
from goodsigns.rounds import GoodRound, RoundTooGreat
from goodsigns.towers import Tower, TowerTooGreat
from goodsigns.webs import OddRing, Sides
from helpers import Strange, check_same, no_integers

# Each class of papers with its word and the names of its parts.
PAPERS = [(AllReal, "allreal", []), (NoneAbove, "noneabove", ["numbers"]), (Sides, "sides", ["marks"]),
          (GoodSigns, "goodsigns", ["signs"]), (AlikeCovers, "alikecovers", ["places"]), (Tower, "tower", ["signs"]),
          (Weights, "weights", ["first", "second"]), (Lots, "lots", ["dealt"]), (GoodRound, "goodround", ["renamings"])]
DENIALS = [(NotReal, "notreal", ["row"]), (SomeAbove, "someabove", ["power"]), (OddRing, "oddring", ["ring"]),
           (TooGreat, "toogreat", ["power"]), (NoSigns, "nosigns", ["powers"]), (UnlikeCovers, "unlikecovers", ["ring"]),
           (TowerTooGreat, "towertoogreat", ["signs", "power"]), (LotsTooGreat, "lotstoogreat", ["power"]),
           (RoundTooGreat, "roundtoogreat", ["power"])]


def deep(make, levels):
    """A value that is nested so deep."""
    value = make([1])
    for _ in range(levels - 1):
        value = make([value])
    return value


class Fixed(unittest.TestCase):
    def test_lists_become_tuples_all_the_way_in(self):
        check_same(self, fixed([]), ())
        check_same(self, fixed([1, (2, [3, [4, ()]]), "ab"]), (1, (2, (3, (4, ()))), "ab"))
        self.assertEqual(fixed(value=[[1]]), ((1,),))
        self.assertEqual(fixed(deep(list, 30)), deep(tuple, 30))

    def test_other_values_stay(self):
        inside = {"a": [1, [2]]}
        self.assertIs(fixed(inside), inside)
        self.assertIs(fixed([inside])[0], inside)
        self.assertEqual(inside, {"a": [1, [2]]})
        for value in no_integers():
            if not isinstance(value, (list, tuple)):
                self.assertIs(fixed(value), value)
        self.assertIs(fixed([True])[0], True)

    def test_what_is_passed_stays(self):
        value = [1, [2, [3]]]
        fixed(value)
        self.assertEqual(value, [1, [2, [3]]])
        self.assertIs(type(value[1][1]), list)


class Papers(unittest.TestCase):
    def test_attributes_and_truth(self):
        paper, denial = Paper("note", 1, [2, [3]]), Denial("no")
        self.assertEqual((paper.word, paper.parts, denial.word, denial.parts), ("note", (1, (2, (3,))), "no", ()))
        self.assertIs(bool(paper), True)
        self.assertIs(bool(denial), False)
        self.assertEqual(Paper(word="note").parts, ())

    def test_equality(self):
        self.assertTrue(Paper("a", [1]) == Paper("a", (1,)))
        self.assertTrue(Paper("a", 1) == Paper("a", True))
        for other in (Paper("b", [1]), Paper("a", [2]), Paper("a", 1), Paper("a", [1], 2), Denial("a", [1])):
            self.assertFalse(Paper("a", [1]) == other)
            self.assertTrue(Paper("a", [1]) != other)
        for other in no_integers():
            check_same(self, Paper("a") == other, False)
        self.assertFalse(Paper("allreal") == AllReal())
        self.assertFalse(AllReal() == Paper("allreal"))
        self.assertFalse(Denial("notreal", [1]) == NotReal([1]))

    def test_classes(self):
        self.assertEqual(Denial.__bases__, (Paper,))
        for made, _, _ in PAPERS:
            self.assertTrue(issubclass(made, Paper) and not issubclass(made, Denial))
        for made, _, _ in DENIALS:
            self.assertTrue(issubclass(made, Denial))
        known = [made for made, _, _ in PAPERS + DENIALS]
        for one in known:
            for other in known:
                self.assertTrue(one is other or not issubclass(one, other))

    def test_parts_by_place_and_by_name(self):
        for value in no_integers() + [3, [1, [2, (3,)]], {"a": [1]}]:
            for made, word, names in PAPERS + DENIALS:
                told = {name: value for name in names}
                for paper in (made(*told.values()), made(**told)):
                    self.assertEqual(paper.word, word)
                    self.assertEqual(len(paper.parts), len(names))
                    self.assertIs(bool(paper), not isinstance(paper, Denial))
                    for name, part in zip(names, paper.parts):
                        self.assertIs(getattr(paper, name), part)
                        self.assertTrue(part is value or part == fixed(value))
                    self.assertTrue(paper == made(**told))

    def test_parts_are_copied(self):
        row = [1, [2]]
        paper = NotReal(row)
        row[1].append(3)
        self.assertEqual(paper.row, (1, (2,)))

    def test_the_same_paper_to_the_letter(self):
        paper = NoneAbove([Bound(1, 0, 0), 2])
        check_same(self, is_same_paper(paper, NoneAbove((Bound(1, 0, 0), 2))), True)
        for value in (NoneAbove((Bound(1, 0, 1), 2)), NoneAbove((Bound(1, 0, 0),)), SomeAbove(paper.parts[0]),
                      NoneAbove((Strange(), 2)), NoneAbove((Bound(1, 0, 0), 2.0)), NoneAbove(Strange()), Strange()):
            check_same(self, is_same_paper(paper, value), False)
        check_same(self, is_same_paper(SomeAbove(1), SomeAbove(True)), False)
        check_same(self, is_same_paper(SomeAbove(0), SomeAbove(False)), False)


if __name__ == "__main__":
    unittest.main()
