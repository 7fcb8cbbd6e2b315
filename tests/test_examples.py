"""The examples that the interface gives, run in its order with names kept."""

import unittest

from helpers import every_name, run_examples

CHECKS = """\
>>> [is_integer(True), is_within(3, None, 3), is_within(3, 4, None), are_integers([1, True]), are_integers(()), is_name("a1"), is_name("1a")]
[False, True, False, False, True, True, False]
>>> [common_divisor([-12, 18, 0]), common_divisor([]), whole_root(0), whole_root(24), whole_root(25)]
[6, 0, 0, 4, 5]
"""

PAPERS = """\
>>> note = Paper("note", [1, (2, [3])])
>>> [note.parts, bool(note), bool(Denial("no")), note == Denial("note", [1, (2, [3])])]
[((1, (2, (3,))),), True, False, False]
"""

BOUNDS = """\
>>> edge, four = Bound(0, 2, 2), Bound(0, 2, 4)
>>> [str(edge), Bound.read("-3 1 8") == Bound(-3, 1, 8), four == Bound(4, 0, 4), [sign_of(each) for each in (edge, Bound(-3, 1, 8), Bound(-3, 1, 9), Bound(3, -1, 8))]]
['0 2 2', True, False, [1, -1, 0, 1]]
>>> [str(each) for each in (added(edge, Bound(1, 0, 7)), multiplied(edge, Bound(1, 3, 2)), multiplied(Bound(3, 0, 5), edge), added(Bound(1, 0, 7), Bound(2, 0, 5)))]
['1 2 2', '12 2 2', '0 6 2', '3 0 7']
>>> [at_most(four, Bound(4, 0, 0)), at_most(edge, Bound(3, 0, 0)), at_most(Bound(3, 0, 0), edge), Bound(3, 0, 5) == Bound(3, 0, 7)]
[True, True, False, False]
>>> added(edge, Bound(0, 1, 3))
raises Misfit('under')
>>> Bound.read("0 2 -2")
raises BadText(0, 2)
"""

POLYS = """\
>>> cube, step = Poly([1, 0, -3, -2]), Poly((1, 1))
>>> [cube.degree, str(cube), cube.worth(3), times(step, step).numbers, divided(cube, step).numbers, mixed(step, Poly([2, -5]), 3, 1).numbers]
[3, '1 0 -3 -2', 16, (1, 2, 1), (1, -1, -2), (5, -2)]
>>> [derived(cube).numbers, lessened(derived(cube)).numbers, in_squares(Poly([1, 0, -4, 0, 2])) == (0, Poly([1, -4, 2])), in_squares(Poly([2, 0, 6, 0]))[1].numbers]
[(3, 0, -3), (1, 0, -1), True, (2, 6)]
>>> divided(step, Poly([2]))
raises Misfit('rest')
>>> in_squares(cube)
raises Misfit('even')
>>> Poly.read("0 1")
raises BadText(0, 0)
"""

SHIFTS = """\
>>> [[str(each) for each in shifted(Poly([1, 0, -2]), Bound(0, 1, 2))], [str(each) for each in shifted(cube, Bound(1, 1, 3))]]
[['1 0 2', '0 2 2', '0 0 2'], ['1 0 3', '3 3 3', '9 6 3', '5 3 3']]
"""

REALS = """\
>>> [power_table(cube), power_table(Poly([2, 3, 0])), power_table(Poly([5]))]
[((3, 0, 6), (0, 6, 6), (6, 6, 18)), ((2, -3), (-3, 9)), ()]
>>> plus = Poly([1, 0, 1])
>>> [all_real(cube) == AllReal(), bool(all_real(plus)), [shows_all_real(plus, NotReal(row)) for row in ([1, 2], [1, 1], [0, 1, 0])], shows_all_real(plus, all_real(plus))]
[True, False, [True, False, False], True]
>>> three = Poly([1, -9, 18, -6])
>>> [[str(each) for each in within(three, Bound(8, 0, 0)).numbers], bool(within(three, Bound(7, 0, 0))), within(three, Bound(6, 0, 0)).power, within(Poly([1, -4, 4]), Bound(0, 0, 0)).power]
[['1 0 0', '15 0 0', '66 0 0', '74 0 0'], True, 0, 1]
>>> within(plus, Bound(5, 0, 0))
raises Impossible
"""

WEBS = """\
>>> web = Web(4, [(0, 1), [2, 1], (3, 0)])
>>> [web.places, web.ties, web.most, web.neighbours(0), str(web), str(Web(2, []))]
[4, ((0, 1), (0, 3), (1, 2)), 2, (1, 3), '4 : 0 1 0 3 1 2', '2 :']
>>> [pieces(web), pieces(without(web, [0])), is_joined(web), str(without(web, [0])), two_sides(web).marks]
[((0, 1, 2, 3),), ((0, 1), (2,)), True, '3 : 0 1', (0, 1, 0, 1)]
>>> triangle = Web(3, [(0, 1), (0, 2), (1, 2)])
>>> [bool(two_sides(triangle)), shows_two_sides(triangle, OddRing([2, 0, 1])), shows_two_sides(web, Sides([1, 0, 1, 0])), shows_two_sides(web, Sides((0, 1, 0, 1)))]
[False, True, False, True]
>>> Web(3, [(0, 1), (2, 2)])
raises Misfit('tie')
>>> Web(3, [(0, 1), (1, 0), (0, 3)])
raises Twice((0, 1))
>>> Web.read("4 : 0 1 0 3 0 2")
raises BadText(0, 7)
>>> Web.read("4 : 0 1 2")
raises BadText(0, 5)
"""

TABLES = """\
>>> [table_poly([[2]]).numbers, table_poly([[1, 2], [2, -3]]).numbers, table_poly([[0, 5, 0], [5, 0, 0], [0, 0, 7]]).numbers]
[(1, -2), (1, 2, -7), (1, -7, -25, 175)]
>>> table_poly([[0, 1], [2, 0]])
raises BadNumber('table')
"""

SIGNS = """\
>>> [table_of(triangle, [1, 0, -1]), turned_about(triangle, [1, 0, -1], 0), signs_without(web, [1, -1, -1], [1])]
[((0, 1, 0), (1, 0, -1), (0, -1, 0)), (-1, 0, -1), (-1,)]
>>> [sign_poly(triangle, each).numbers for each in ([1, 1, 1], [1, 1, -1], [-1, -1, -1])]
[(1, 0, -3, -2), (1, 0, -3, 2), (1, 0, -3, 2)]
>>> square = Web(4, [(0, 1), (1, 2), (2, 3), (0, 3)])
>>> [sign_poly(square, [1, 1, 1, 1]).numbers, sign_poly(square, [1, 1, -1, 1]).numbers, sign_poly(web, [1, -1, 1]).numbers]
[(1, 0, -4, 0, 0), (1, 0, -4, 0, 4), (1, 0, -3, 0, 1)]
>>> sign_poly(triangle, [1, 0, -1])
raises BadSigns('signs')
"""

PAIRINGS = """\
>>> hall = Web(6, [(0, 3), (0, 4), (0, 5), (1, 3), (1, 4), (1, 5), (2, 3), (2, 4), (2, 5)])
>>> [pairing_numbers(hall), pairing_numbers(web), pairing_numbers(Web(2, []))]
[(1, 9, 18, 6), (1, 3, 1), (1,)]
>>> [pairing_poly(hall).numbers, pairing_poly(triangle).numbers, pairing_poly(square).numbers, pairing_poly(Web(2, [])).numbers]
[(1, 0, -9, 0, 18, 0, -6), (1, 0, -3, 0), (1, 0, -4, 0, 2), (1, 0, 0)]
>>> star = Web(17, [(0, place) for place in range(1, 17)])
>>> pairing_numbers(star)
(1, 16)
>>> pairing_poly(Web(17, list(star.ties) + [(1, 2)]))
raises TooMany('places', 16)
"""

WAYS = """\
>>> [ways_from(triangle, 0), str(tree_of_ways(triangle, 0)), len(ways_from(hall, 5)), ways_from(Web(2, []), 1)]
[((0,), (0, 1), (0, 2), (0, 1, 2), (0, 2, 1)), '5 : 0 1 0 2 1 3 2 4', 46, ((1,),)]
>>> [left_over(triangle, 0).numbers, left_over(square, 3).numbers, left_over(web, 1).numbers, left_over(hall, 0).degree]
[(1, 0, -1), (1, 0, -2, 0), (1,), 40]
>>> left_over(Web(3, [(0, 1)]), 0)
raises Misfit('web')
"""

MEANS = """\
>>> [mean_poly(triangle, signs).numbers for signs in ([0, 0, 0], [1, 0, 1], [1, 1, -1])]
[(1, 0, -3, 0), (1, 0, -3, 0), (1, 0, -3, 2)]
>>> [mean_poly(hall, [0] * 9).numbers, mean_poly(hall, [1, 1, 1, 1, 1, 0, 1, 0, 0]).numbers, mean_poly(hall, [1, 1, 1, 1, 1, 0, 1, -1, 0]).numbers]
[(1, 0, -9, 0, 18, 0, -6), (1, 0, -9, 0, 16, 0, -4), (1, 0, -9, 0, 20, 0, -8)]
>>> mean_poly(Web(25, []), [])
raises TooMany('places', 24)
"""

CHOICES = """\
>>> small, less = Bound(0, 1, 3), Bound(1, 0, 0)
>>> [degree_bound(hall) == Bound(0, 2, 2), next_sign(triangle, [1, 0, 1], 1, small), next_sign(triangle, [0, 0, 1], 1, small)]
[True, -1, 1]
>>> [good_signs(triangle, small, [2, 0, 1]).signs, good_signs(triangle, less, [0, 1, 2]) == TooGreat(0), any_signs(triangle, less).signs, any_signs(triangle, Bound(0, 0, 0)).powers]
[(1, -1, 1), True, (1, 1, -1), (1, 1)]
>>> close = Bound(11, -6, 2)
>>> [good_signs(hall, degree_bound(hall), order).signs for order in ([0, 1, 2, 3, 4, 5, 6, 7, 8], [8, 7, 6, 5, 4, 3, 2, 1, 0])]
[(1, 1, 1, 1, 1, 1, 1, 1, -1), (-1, 1, 1, 1, 1, 1, 1, 1, 1)]
>>> [good_signs(hall, close, [0, 1, 2, 3, 4, 5, 6, 7, 8]).signs, any_signs(hall, close).signs]
[(1, 1, 1, 1, -1, 1, 1, 1, -1), (1, 1, 1, 1, 1, -1, 1, -1, 1)]
>>> next_sign(triangle, [1, 0, 1], 0, small)
raises NoTie(0)
>>> next_sign(triangle, [0, 0, 0], 0, less)
raises Misfit('bound')
>>> good_signs(triangle, small, [0, 2])
raises Misfit('order')
"""

CHECK_SIGNS = """\
>>> [shows_good_signs(triangle, less, value) for value in (GoodSigns([-1, 1, 1]), GoodSigns((1, 1, 1)), TooGreat(0), TooGreat(1))]
[True, False, True, False]
>>> [shows_any_signs(triangle, less, value) for value in (GoodSigns((-1, -1, -1)), NoSigns([1, 1]))]
[True, False]
"""

COVERS = """\
>>> [str(cover(triangle, [1, 1, -1])), str(cover(Web(2, [(0, 1)]), [1]))]
['6 : 0 1 0 2 1 5 2 4 3 4 3 5', '4 : 0 1 2 3']
>>> [alike_covers(triangle, [1, 1, -1], [-1, 1, 1]).places, bool(alike_covers(triangle, [1, 1, 1], [1, 1, -1]))]
[(1,), False]
>>> [shows_alike_covers(triangle, [1, 1, 1], [1, 1, -1], value) for value in (UnlikeCovers([2, 1, 0]), UnlikeCovers([0, 1]), AlikeCovers([]))]
[True, False, False]
>>> cover(triangle, [1, 0, 1])
raises BadSigns('signs')
>>> alike_covers(triangle, [1, 1, 1], [1, 1])
raises BadSigns('other')
>>> cover(Web(31, []), [])
raises TooMany('places', 60)
"""

TOWERS = """\
>>> tower(square, 2, Bound(-12, 1, 195)).signs
((1, 1, 1, -1), (1, 1, 1, 1, 1, 1, 1, -1))
>>> tower(square, 2, Bound(-10, 1, 143)) == TowerTooGreat([[1, 1, 1, -1]], 0)
True
>>> [tower(hall, 1, Bound(0, 2, 2)).signs, tower(hall, 0, Bound(0, 0, 0)).signs]
[((1, 1, 1, 1, 1, 1, 1, 1, -1),), ()]
>>> [shows_tower(hall, 1, Bound(0, 2, 2), value) for value in (Tower([[1, 1, 1, 1, 1, -1, 1, 1, 1]]), Tower([[1] * 9]), TowerTooGreat([], 0))]
[True, False, False]
>>> [shows_tower(hall, 1, Bound(0, 1, 6), value) for value in (Tower([[-1, 1, 1, 1, -1, 1, 1, 1, -1]]), TowerTooGreat([], 0))]
[True, True]
>>> tower(triangle, 1, Bound(2, 0, 0))
raises Misfit('sides')
>>> tower(web, 1, Bound(2, 0, 0))
raises Misfit('ties')
>>> tower(hall, 4, Bound(0, 2, 2))
raises TooMany('places', 24)
"""

EDGES = """\
>>> ring = [(0, 1), (1, 2), (2, 3), (3, 4), (4, 5), (5, 6), (6, 7), (0, 7)]
>>> wide = Web(16, ring + [(one + 8, other + 8) for one, other in ring] + [(at, at + 8) for at in range(8)])
>>> [shells(wide, 2, 3), wide.ties[2], wide.ties[10], shells(Web(3, [(0, 2)]), 0, 1)]
[((0, 8), (1, 7, 9, 15), (2, 6, 10, 14), (3, 5, 11, 13)), (0, 8), (4, 12), ((0, 2), ())]
>>> signs = turned_about(wide, [1] * 24, 8)
>>> weights = far_weights(wide, signs, 2, 10, 1)
>>> [[str(each) for each in weights.first[:3]], str(weights.first[8]), [place for place in range(16) if sign_of(weights.second[place]) != 0]]
[['0 1 2', '1 0 2', '0 0 2'], '0 -1 2', [3, 4, 5, 11, 12, 13]]
>>> [str(second_bound(3, 1)), shows_weights(wide, signs, 2, second_bound(3, 1), weights), shows_weights(wide, signs, 1, Bound(1, 1, 2), weights), shows_weights(wide, signs, 1, Bound(0, 2, 2), weights)]
['1 2 2', True, True, False]
>>> far_weights(wide, signs, 2, 10, 2)
raises Misfit('far')
>>> far_weights(wide, [-1] + [1] * 23, 2, 10, 1)
raises Misfit('ring')
"""

VECTORS = """\
>>> cross, three = Vectors([[1, 0], [0, 1], [1, 0], [0, 1]]), Vectors([[1], [-2], [2]])
>>> [cross.total, cross.longest, three.total, three.longest, str(cross), Vectors.read("1 : 1 -2 2") == three]
[2, 1, 9, 4, '2 : 1 0 0 1 1 0 0 1', True]
>>> Vectors([[1, 1], [1, -1], [1, 0]])
raises Misfit('sum')
>>> Vectors.read("2 : 1 0 0")
raises BadText(0, 5)
>>> Vectors.read("2 : 1 1")
raises BadText(0, 3)
"""

LOTS = """\
>>> [lots_bound(cross, 2), lots_bound(three, 3)] == [Bound(4, 2, 4), Bound(21, 2, 108)]
True
>>> [lot_poly(cross, 2, [0, 0, None, 1], lot).numbers for lot in (0, 1)]
[(1, -4, 4), (1, -2, 0)]
>>> [lots_poly(cross, 2, [None] * 4).numbers, lots_poly(cross, 2, [0, 0, 1, 1]).numbers]
[(16, -128, 320, -256, 64), (1, -8, 24, -32, 16)]
>>> edge = Bound(2, 1, 2)
>>> [next_lot(cross, 2, [0, 0, None, None], 2, edge), even_lots(cross, 2, edge, [0, 1, 2, 3]).dealt, even_lots(cross, 2, edge, [3, 0, 2, 1]).dealt]
[1, (0, 0, 1, 1), (0, 1, 1, 0)]
>>> even_lots(cross, 2, Bound(3, 0, 0), [0, 1, 2, 3]) == LotsTooGreat(1)
True
"""

CHECK_LOTS = """\
>>> [shows_even_lots(cross, 2, Bound(3, 0, 0), value) for value in (Lots((0, 1, 1, 0)), Lots((0, 0, 0, 1)), LotsTooGreat(1), LotsTooGreat(3))]
[True, False, True, False]
"""

MEANSUMS = """\
>>> [ones(0).numbers, ones(3).numbers, mean_sum(Poly([1, -2]), Poly([1, 5])).numbers, mean_sum(Poly([1, 0, -1]), Poly([1, 0, -1])).numbers]
[(1,), (1, -3, 3, -1), (1, 3), (1, 0, -2)]
>>> half = Poly([1, -1, 0])
>>> [mean_sum(half, half).numbers, two_sided_sum(half, half).numbers, two_sided_sum(ones(2), ones(2)).numbers]
[(2, -4, 1), (4, -8, 1), (1, -4, 3)]
>>> [mean_sum(ones(3), Poly([1, 0, -1, 0])).numbers, mean_sum(Poly([2, 0, -4]), Poly([3, 0, 0])).numbers]
[(1, -3, 2, 0), (1, 0, -2)]
>>> mean_sum(ones(2), ones(3))
raises Misfit('degree')
"""

ROUNDS = """\
>>> both, twice, plain = Round([[0, 1], [1, 0]]), Round([(0, 1), (0, 1)]), Round([[0, 1, 2]])
>>> [both.table, twice.table, rest_poly(both).numbers, rest_poly(twice).numbers, rest_poly(plain).numbers]
[((1, 1), (1, 1)), ((2, 0), (0, 2)), (1, 0), (1, -4), (1, -2, 1)]
>>> [mean_rest(Round([[0, 1]]), 1).numbers, [mean_rest(plain, more).numbers for more in (0, 1, 2)]]
[(1, -2), [(1, -2, 1), (1, -4, 3), (1, -6, 6)]]
>>> [str(round_web(Round([[0, 1, 2], [1, 2, 0]]))), round_bound(3) == Bound(8, 0, 0)]
['6 : 0 3 0 4 1 4 1 5 2 3 2 5', True]
>>> [next_renaming(Round([[0, 1]]), 1, Bound(whole, 0, 0)) for whole in (2, 4)]
[(1, 0), (0, 1)]
>>> [good_round(3, 2, Bound(3, 0, 0)).renamings, good_round(3, 3, Bound(3, 1, 3)).renamings]
[((0, 1, 2), (1, 2, 0)), ((0, 1, 2), (1, 2, 0), (0, 1, 2))]
>>> good_round(3, 2, Bound(2, 0, 0)) == RoundTooGreat(0)
True
>>> round_web(twice)
raises Misfit('ties')
>>> next_renaming(Round([[0, 1]]), 1, Bound(1, 0, 0))
raises Misfit('bound')
>>> mean_rest(twice, 4)
raises TooMany('renamings', 5)
"""

CHECK_ROUNDS = """\
>>> [shows_good_round(3, 2, Bound(2, 0, 0), value) for value in (GoodRound([[1, 2, 0], [0, 1, 2]]), GoodRound([[0, 1, 2], [0, 2, 1]]), RoundTooGreat(0), RoundTooGreat(1))]
[True, False, True, False]
>>> [shows_good_round(3, 2, Bound(3, 0, 0), RoundTooGreat(0)), shows_good_round(1, 1, Bound(-1, 0, 0), GoodRound([[0]]))]
[False, True]
"""

DESK = """\
>>> desk = Desk()
>>> [desk.tell("keep two bound 0 2 2"), desk.tell("keep hall web 6 : 0 3 0 4 0 5 1 3 1 4 1 5 2 3 2 4 2 5"), desk.tell("pair means hall"), desk.tell("within means two")]
['kept', 'kept', '1 0 -9 0 18 0 -6', 'none']
>>> [desk.tell("keep less bound 0 1 6"), desk.tell("within means less"), desk.tell("sign tower hall less"), desk.names()]
['kept', 'above 0', 'toogreat 0', ('hall', 'less', 'means', 'two')]
>>> desk.back()
>>> [desk.names(), desk.done()[-1]]
[('hall', 'means', 'two'), 'pair means hall']
>>> desk.tell("pair hall means")
raises Twice('hall')
>>> desk.tell("pair more means")
raises Misfit('web')
>>> desk.tell("keep hall web 2 : 0 0")
raises BadText(0, 6)
"""

# In the order of the interface, as later examples use names of earlier ones.
EXAMPLES = [("checks", CHECKS), ("papers", PAPERS), ("bounds", BOUNDS), ("polys", POLYS), ("shifts", SHIFTS), ("reals", REALS),
            ("webs", WEBS), ("tables", TABLES), ("signs", SIGNS), ("pairings", PAIRINGS), ("ways", WAYS), ("means", MEANS),
            ("choices", CHOICES), ("check_signs", CHECK_SIGNS), ("covers", COVERS), ("towers", TOWERS),
            ("edges", EDGES), ("vectors", VECTORS), ("lots", LOTS), ("check_lots", CHECK_LOTS), ("meansums", MEANSUMS), ("rounds", ROUNDS), ("check_rounds", CHECK_ROUNDS), ("desk", DESK)]


class Examples(unittest.TestCase):
    def test_examples(self):
        kept = {}
        for module, text in EXAMPLES:
            kept.update(every_name("goodsigns." + module))
            with self.subTest(module=module):
                self.assertGreater(run_examples(self, text, kept), 0)


if __name__ == "__main__":
    unittest.main()
