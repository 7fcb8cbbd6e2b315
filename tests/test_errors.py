"""The errors: their bases, their fields."""

import inspect
import unittest

import goodsigns.errors
from goodsigns.errors import (BadBound, BadDesk, BadLine, BadLots, BadNumber, BadPoly, BadRound, BadSigns, BadText,
                              BadVectors, BadWeb, Impossible, Misfit, Missing, NoName, NoPlace, NoTie, Nothing,
                              SignsError, TooMany, Twice)
from goodsigns.papers import Denial

PARTS = [BadNumber, BadBound, BadPoly, BadWeb, BadSigns, BadVectors, BadLots, BadRound, BadDesk, Misfit]
MISSING = [NoPlace, NoTie, NoName]
FIELDS = [(each, ["part"]) for each in PARTS] + [(each, ["value"]) for each in MISSING + [Missing, Twice]] + [
    (TooMany, ["what", "most"]), (Impossible, ["paper"]), (Nothing, []), (BadText, ["line", "item"]),
    (BadLine, ["line", "error"])]


class Errors(unittest.TestCase):
    def test_bases(self):
        self.assertEqual(SignsError.__bases__, (ValueError,))
        for each, _ in FIELDS:
            wanted = Missing if each in MISSING else SignsError
            self.assertEqual(each.__bases__, (wanted,), msg=each.__name__)

    def test_no_other_errors(self):
        there = [each for _, each in inspect.getmembers(goodsigns.errors, inspect.isclass)]
        self.assertEqual(len(there), len(FIELDS) + 1)
        self.assertEqual({each.__name__ for each in there}, {each.__name__ for each, _ in FIELDS} | {"SignsError"})

    def test_fields_by_place_and_by_name(self):
        for values in ([7, 8], [None, [1, [2]]], [object(), Denial("no")], [10 ** 5000, {}]):
            for each, names in FIELDS:
                told = dict(zip(names, values))
                for error in (each(*told.values()), each(**told)):
                    self.assertEqual(list(vars(error)), names)
                    for name in names:
                        self.assertIs(getattr(error, name), told[name])

    def test_number_of_fields(self):
        for each, names in FIELDS:
            for many in (len(names) - 1, len(names) + 1):
                if names:
                    with self.assertRaises(TypeError):
                        each(*[1] * many)

    def test_caught_by_their_bases(self):
        for error in (NoPlace(3), NoTie(3), NoName(3)):
            with self.assertRaises(Missing):
                raise error
        for each, names in FIELDS:
            with self.assertRaises(ValueError):
                raise each(*names)


if __name__ == "__main__":
    unittest.main()
