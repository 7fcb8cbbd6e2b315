"""The names, parameters and methods of the interface, each defined in the file under which it is listed."""

import importlib
import inspect
import unittest

from goodsigns.bounds import Bound
from goodsigns.desk import Desk
from goodsigns.papers import Denial, Paper
from goodsigns.polys import Poly
from goodsigns.rounds import Round
from goodsigns.vectors import Vectors
from goodsigns.webs import Web

FUNCTIONS = {
    "checks": "is_integer(value) is_within(value,least,most) are_integers(value) is_name(value) common_divisor(values) whole_root(number)",
    "papers": "fixed(value)",
    "bounds": "sign_of(bound) added(one,other) multiplied(one,other) at_most(one,other)",
    "polys": "times(one,other) mixed(one,other,mine,its) divided(poly,by) derived(poly) in_squares(poly) lessened(poly)",
    "shifts": "shifted(poly,bound)",
    "reals": "power_table(poly) all_real(poly) within(poly,bound) shows_all_real(poly,value) shows_within(poly,bound,value)",
    "webs": "pieces(web) is_joined(web) without(web,gone) two_sides(web) shows_two_sides(web,value)",
    "tables": "table_poly(table)",
    "signs": "need_signs(web,signs,is_free) table_of(web,signs) sign_poly(web,signs) turned_about(web,signs,place) signs_without(web,signs,gone)",
    "pairings": "pairing_numbers(web) pairing_poly(web)",
    "ways": "ways_from(web,place) tree_of_ways(web,place) left_over(web,place)",
    "means": "mean_poly(web,signs)",
    "choices": "degree_bound(web) next_sign(web,signs,tie,bound) good_signs(web,bound,order) any_signs(web,bound)",
    "check_signs": "shows_good_signs(web,bound,value) shows_any_signs(web,bound,value)",
    "covers": "cover(web,signs) alike_covers(web,one,other) shows_alike_covers(web,one,other,value)",
    "towers": "tower(web,storeys,bound) shows_tower(web,storeys,bound,value)",
    "edges": "shells(web,tie,steps) second_bound(many,steps) far_weights(web,signs,one,other,steps) shows_weights(web,signs,times,bound,value)",
    "lots": "lots_bound(vectors,many) lot_poly(vectors,many,dealt,lot) lots_poly(vectors,many,dealt) next_lot(vectors,many,dealt,number,bound) "
            "even_lots(vectors,many,bound,order)",
    "check_lots": "shows_even_lots(vectors,many,bound,value)",
    "meansums": "mean_sum(one,other) two_sided_sum(one,other) ones(degree)",
    "rounds": "rest_poly(laid) mean_rest(laid,more) round_web(laid) round_bound(many) next_renaming(laid,more,bound) good_round(size,many,bound)",
    "check_rounds": "shows_good_round(size,many,bound,value)",
}
CLASSES = {
    "papers": {"Paper": "word,parts", "Denial": "word,parts"},
    "bounds": {"Bound": "whole,part,under"},
    "polys": {"Poly": "numbers"},
    "reals": {"AllReal": "", "NoneAbove": "numbers", "NotReal": "row", "SomeAbove": "power"},
    "webs": {"Web": "places,ties", "Sides": "marks", "OddRing": "ring"},
    "choices": {"GoodSigns": "signs", "TooGreat": "power", "NoSigns": "powers"},
    "covers": {"AlikeCovers": "places", "UnlikeCovers": "ring"},
    "towers": {"Tower": "signs", "TowerTooGreat": "signs,power"},
    "edges": {"Weights": "first,second"},
    "vectors": {"Vectors": "rows"},
    "lots": {"Lots": "dealt", "LotsTooGreat": "power"},
    "rounds": {"Round": "renamings", "GoodRound": "renamings", "RoundTooGreat": "power"},
    "desk": {"Desk": ""},
}
METHODS = {
    Paper: ["__bool__", "__eq__"], Denial: ["__bool__"],
    Bound: ["__eq__", "__str__", "read(text)"], Poly: ["__eq__", "__str__", "worth(x)", "read(text)"],
    Web: ["__eq__", "__str__", "neighbours(place)", "read(text)"], Vectors: ["__eq__", "__str__", "read(text)"], Round: ["__eq__"],
    Desk: ["tell(line)", "names()", "kept(name)", "back()", "again()", "done()", "read(lines)"],
}
READERS = {Bound: "1 -2 3", Poly: "1 0 -2", Web: "3 : 0 1", Vectors: "2 : 1 0 0 1"}


def module_of(name):
    """A module of the package."""
    return importlib.import_module("goodsigns." + name)


def parameters(function):
    """The names of the parameters of a function."""
    return [name for name in inspect.signature(function).parameters if name != "self"]


class Interface(unittest.TestCase):
    def test_functions(self):
        for module, text in FUNCTIONS.items():
            for each in text.split(" "):
                name, _, told = each.rstrip(")").partition("(")
                function = getattr(module_of(module), name)
                self.assertTrue(inspect.isfunction(function))
                self.assertEqual(function.__module__, "goodsigns." + module)
                self.assertEqual(parameters(function), told.split(","))

    def test_classes(self):
        for module, classes in CLASSES.items():
            for name, told in classes.items():
                made = getattr(module_of(module), name)
                self.assertTrue(inspect.isclass(made))
                self.assertEqual(made.__module__, "goodsigns." + module)
                self.assertEqual(parameters(made), [each for each in told.split(",") if each])

    def test_methods_stand_in_their_class(self):
        for made, methods in METHODS.items():
            for each in methods:
                name, _, told = each.rstrip(")").partition("(")
                self.assertIn(name, vars(made))
                if "(" in each:
                    self.assertEqual(parameters(getattr(made, name)), [word for word in told.split(",") if word])

    def test_texts(self):
        for made, text in READERS.items():
            value = made.read(text)
            self.assertIs(type(value), made)
            self.assertEqual(str(value), text)
            self.assertEqual(value, made.read(text=str(value)))
            for other in READERS:
                if other is not made:
                    self.assertFalse(value == other.read(READERS[other]))


if __name__ == "__main__":
    unittest.main()
