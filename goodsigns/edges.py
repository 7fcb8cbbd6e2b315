"""Ties that are far apart, and the weights round them that no bound far below can hold."""

from goodsigns.bounds import Bound, at_most, multiplied, need_bound, sign_of
from goodsigns.checks import is_row, need_integer
from goodsigns.errors import Misfit
from goodsigns.papers import Paper
from goodsigns.rows import product_sum, table_times
from goodsigns.signs import need_signs, table_of
from goodsigns.webs import need_alike_places, need_tie, need_web

MOST_STEPS = 60


class Weights(Paper):
    """Two rows of weights, a Bound for each place."""

    def __init__(self, first, second):
        Paper.__init__(self, "weights", first, second)
        self.first = self.parts[0]
        self.second = self.parts[1]


def need_steps(steps):
    """Require a number of steps."""
    need_integer(steps, "steps", 0, MOST_STEPS)


def shells(web, tie, steps):
    """The shells 0 to steps round a tie, each a tuple of places, ascending."""
    need_web(web, "web")
    need_tie(web, tie)
    need_steps(steps)
    found = [web.ties[tie]]
    reached = {place: True for place in found[0]}
    for _ in range(steps):
        near = [each for place in found[-1] for each in web.neighbours(place) if each not in reached]
        shell = tuple(sorted(set(near)))
        reached.update({place: True for place in shell})
        found.append(shell)
    return tuple(found)


def second_bound(many, steps):
    """The bound, times steps + 1, that weights hold in balls of so many steps, each place having so many ties."""
    need_integer(many, "many", 2, None)
    need_steps(steps)
    return Bound(1, 2 * steps, many - 1)


def ball_marks(table, layers):
    """A mark, 1 or -1, for each place of a ball: those of the ties by which it was first reached, multiplied."""
    one, other = layers[0]
    marks = {one: 1, other: table[one][other]}
    for ahead, here in zip(layers, layers[1:]):
        for place in here:
            near = [each for each in ahead if table[each][place] != 0][0]
            marks[place] = marks[near] * table[near][place]
    return marks


def are_far(web, first, second):
    """Whether two balls, told by marks of their places, share no place and no tie leads from one to the other."""
    if any([place in second for place in first]):
        return False
    ways = web.ties + tuple([(other, one) for one, other in web.ties])
    return not any([one in first and other in second for one, other in ways])


def are_even(web, signs, marks):
    """Whether the sign of each tie within a ball is the product of the marks of its places."""
    inside = [(tie, sign) for tie, sign in zip(web.ties, signs) if tie[0] in marks and tie[1] in marks]
    return all([marks[one] * marks[other] == sign for (one, other), sign in inside])


def root_powers(under, most):
    """The powers of root under, from the one of so many down to 1, as Bounds."""
    found = [Bound(1, 0, under)]
    for _ in range(most):
        found.append(multiplied(found[-1], Bound(0, 1, under)))
    return found[::-1]


def weights_of(web, layers, marks):
    """The row of weights of a ball: a power of root q for each shell, with the marks as signs."""
    under = web.most - 1
    row = [Bound(0, 0, under)] * web.places
    for shell, power in zip(layers, root_powers(under, len(layers) - 1)):
        for place in shell:
            row[place] = multiplied(power, Bound(marks[place], 0, under))
    return row


def far_weights(web, signs, one, other, steps):
    """The weights round two ties that are far by so many steps, in whose balls the signs are even."""
    told = need_signs(web, signs, False)
    need_tie(web, one)
    need_tie(web, other)
    need_steps(steps)
    need_alike_places(web)
    table = table_of(web, told)
    first, second = shells(web, one, steps), shells(web, other, steps)
    mine, its = ball_marks(table, first), ball_marks(table, second)
    if not are_far(web, mine, its):
        raise Misfit("far")
    if not are_even(web, told, mine) or not are_even(web, told, its):
        raise Misfit("ring")
    return Weights(weights_of(web, first, mine), weights_of(web, second, its))


def are_weights(web, under, row):
    """Whether a value is a row with a Bound of this under for each place."""
    if not is_row(row) or len(row) != web.places:
        return False
    return all([isinstance(each, Bound) and each.under == under for each in row])


def places_with_weight(row):
    """The places that have a weight other than 0, as the keys of a dict."""
    return {place: True for place, weight in enumerate(row) if sign_of(weight) != 0}


def summed_products(one, other, under):
    """The sum of the products of two rows of numbers, each row told by its wholes and its parts."""
    whole = product_sum(one[0], other[0]) + product_sum(one[1], other[1]) * under
    return Bound(whole, product_sum(one[0], other[1]) + product_sum(one[1], other[0]), under)


def holds(table, times, bound, row):
    """Whether the form of the table at a row of weights, times an integer, is not below the squares times the bound."""
    parts = ([each.whole for each in row], [each.part for each in row])
    made = (table_times(table, parts[0]), table_times(table, parts[1]))
    squares = summed_products(parts, parts, bound.under)
    # The table tells each tie twice.
    form = multiplied(summed_products(parts, made, bound.under), Bound(times, 0, bound.under))
    return at_most(multiplied(squares, bound), form)


def shows_weights(web, signs, times, bound, value):
    """Whether a value is Weights that hold a bound for the roots of the signs times an integer."""
    told = need_signs(web, signs, False)
    need_integer(times, "times", 1, None)
    need_bound(bound, "bound")
    if type(value) is not Weights or not all([are_weights(web, bound.under, row) for row in value.parts]):
        return False
    first, second = places_with_weight(value.first), places_with_weight(value.second)
    if not first or not second or not are_far(web, first, second):
        return False
    table = table_of(web, told)
    return all([holds(table, times, bound, row) for row in value.parts])
