"""Rounds: pairings of two rows of places, put together."""

from itertools import permutations

from goodsigns.bounds import Bound, need_bound
from goodsigns.checks import are_integers, is_row, need_integer
from goodsigns.errors import BadRound, Misfit, TooMany
from goodsigns.meansums import ones, two_sided_sum
from goodsigns.papers import Denial, Paper
from goodsigns.polys import Poly, divided
from goodsigns.reals import told_within
from goodsigns.rows import table_times
from goodsigns.tables import table_poly
from goodsigns.webs import Web

MOST_RENAMINGS = 5
MOST_SIZE = 5


class Round:
    """A round, told by its renamings."""

    def __init__(self, renamings):
        if not are_renamings(renamings):
            raise BadRound("renamings")
        self.renamings = tuple([tuple(renaming) for renaming in renamings])
        self.size = len(self.renamings[0])
        self.table = renaming_table(self.renamings, self.size)

    def __eq__(self, other):
        return isinstance(other, Round) and self.renamings == other.renamings


class GoodRound(Paper):
    """Renamings of which the round has a rest poly within the bound."""

    def __init__(self, renamings):
        Paper.__init__(self, "goodround", renamings)
        self.renamings = self.parts[0]


class RoundTooGreat(Denial):
    """The mean rest is not within the bound: shifted, its number of this power is below 0."""

    def __init__(self, power):
        Denial.__init__(self, "roundtoogreat", power)
        self.power = self.parts[0]


def is_renaming(value):
    """Whether a value is a list that has each of the integers from 0 on, as many as it has, once."""
    return are_integers(value) and sorted(value) == list(range(len(value)))


def are_renamings(value):
    """Whether a value is a list of 1 to 5 renamings of one number, 1 to 5."""
    if not is_row(value) or not 1 <= len(value) <= MOST_RENAMINGS or not all([is_renaming(each) for each in value]):
        return False
    return 1 <= len(value[0]) <= MOST_SIZE and all([len(each) == len(value[0]) for each in value])


def renaming_table(renamings, size):
    """The table that tells how many renamings lead from each place to each one."""
    places = range(size)
    return tuple([tuple([[each[i] for each in renamings].count(j) for j in places]) for i in places])


def need_round(value, part):
    """The value, if it is a Round."""
    if not isinstance(value, Round):
        raise BadRound(part)
    return value


def need_few_renamings(laid, more):
    """Require that the renamings of a round and some more are not too many."""
    if len(laid.renamings) + more > MOST_RENAMINGS:
        raise TooMany("renamings", MOST_RENAMINGS)


def rest_poly(laid):
    """The poly of the square of a round's table, without the root that each round has."""
    need_round(laid, "laid")
    many = len(laid.renamings)
    square = [table_times(laid.table, row) for row in laid.table]
    return divided(table_poly(square), Poly([1, -many * many]))


def mean_of_rests(laid, more):
    """The mean rest of a round, of renamings that are not too many."""
    found = rest_poly(laid)
    for _ in range(more):
        found = two_sided_sum(found, ones(laid.size - 1))
    return found


def mean_rest(laid, more):
    """The mean rest of a round with so many more renamings."""
    need_round(laid, "laid")
    need_integer(more, "more", 0, MOST_RENAMINGS - 1)
    need_few_renamings(laid, more)
    return mean_of_rests(laid, more)


def round_web(laid):
    """The web of a round, the places of its second row behind those of the first."""
    need_round(laid, "laid")
    if any([number > 1 for row in laid.table for number in row]):
        raise Misfit("ties")
    ties = [(place, laid.size + renaming[place]) for renaming in laid.renamings for place in range(laid.size)]
    return Web(2 * laid.size, ties)


def round_bound(many):
    """A bound that the mean rest of one renaming is within, with as many more as make this number."""
    need_integer(many, "many", 2, MOST_RENAMINGS)
    return Bound(4 * (many - 1), 0, 0)


def next_renaming(laid, more, bound):
    """The first renaming that leaves the mean rest, with one fewer, within the bound."""
    need_round(laid, "laid")
    need_integer(more, "more", 1, MOST_RENAMINGS - 1)
    need_bound(bound, "bound")
    need_few_renamings(laid, more)
    if not told_within(mean_of_rests(laid, more), bound):
        raise Misfit("bound")
    return first_renaming(laid, more, bound)


def first_renaming(laid, more, bound):
    """What next_renaming tells, where the mean rest is within the bound."""
    # One at least leaves the mean rest, with one fewer, within the bound: so this ends with a renaming.
    for renaming in permutations(range(laid.size)):
        if told_within(mean_of_rests(with_renaming(laid, renaming), more - 1), bound):
            return renaming


def with_renaming(laid, renaming):
    """The round with one more renaming, behind the others."""
    return Round(laid.renamings + (renaming,))


def plain_round(size):
    """The round of the integers in their order alone."""
    return Round([list(range(size))])


def told_mean_rest(size, many, bound):
    """What within tells of the mean rest with which a round of so many renamings begins."""
    return told_within(mean_of_rests(plain_round(size), many - 1), bound)


def need_measures(size, many, bound):
    """Require the size of a round, the number of its renamings, and a bound."""
    need_integer(size, "size", 1, MOST_SIZE)
    need_integer(many, "many", 1, MOST_RENAMINGS)
    need_bound(bound, "bound")


def good_round(size, many, bound):
    """A round within the bound, told renaming by renaming, if the mean rest of the first one is within it."""
    need_measures(size, many, bound)
    told = told_mean_rest(size, many, bound)
    if not told:
        return RoundTooGreat(told.power)
    laid = plain_round(size)
    for more in range(many - 1, 0, -1):
        laid = with_renaming(laid, first_renaming(laid, more, bound))
    return GoodRound(laid.renamings)
