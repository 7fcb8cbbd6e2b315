"""Whether all roots of a poly are real, and whether none is above a bound."""

from goodsigns.bounds import need_bound, sign_of
from goodsigns.chains import broken_chain, cofactor
from goodsigns.checks import are_integers, common_divisor
from goodsigns.errors import Impossible, TooMany
from goodsigns.papers import Denial, Paper, is_same_paper
from goodsigns.polys import lessened, need_poly
from goodsigns.rows import product_sum, table_times
from goodsigns.shifts import shifted

MOST_DEGREE = 24


class AllReal(Paper):
    """All roots are real."""

    def __init__(self):
        Paper.__init__(self, "allreal")


class NotReal(Denial):
    """Not all roots are real: the form of the power table is below 0 at this row."""

    def __init__(self, row):
        Denial.__init__(self, "notreal", row)
        self.row = self.parts[0]


class NoneAbove(Paper):
    """No root is above the bound: none of the shifted numbers is below 0."""

    def __init__(self, numbers):
        Paper.__init__(self, "noneabove", numbers)
        self.numbers = self.parts[0]


class SomeAbove(Denial):
    """Some root is above the bound: the number of this power is below 0."""

    def __init__(self, power):
        Denial.__init__(self, "someabove", power)
        self.power = self.parts[0]


def need_low_poly(poly):
    """Require a Poly, and of a degree that is not too great."""
    need_poly(poly, "poly")
    if poly.degree > MOST_DEGREE:
        raise TooMany("degree", MOST_DEGREE)


def times_powers(numbers, base):
    """The numbers times 1, the base, its square and so on."""
    factor = 1
    found = []
    for number in numbers:
        found.append(number * factor)
        factor = factor * base
    return found


def power_sums(poly):
    """The sums of the powers, from 0 to 2 n - 2, of all roots times the first number."""
    # These products are the roots of a poly with the first number 1; here are its others.
    numbers = times_powers(poly.numbers[1:], poly.numbers[0])
    sums = [poly.degree]
    for power in range(1, 2 * poly.degree - 1):
        total = sum([number * sums[power - k] for k, number in enumerate(numbers, start=1) if k < power])
        if power <= poly.degree:
            total = total + power * numbers[power - 1]
        sums.append(-total)
    return sums


def power_table(poly):
    """The power table of a poly, as a tuple of rows."""
    need_low_poly(poly)
    sums = power_sums(poly)
    places = range(poly.degree)
    return tuple([tuple([sums[i + j] for j in places]) for i in places])


def form_at(table, row):
    """The form of the table at a row."""
    return product_sum(row, table_times(table, row))


def cofactor_row(poly, steps):
    """The cofactor of a chain, or a multiple, as a row at which the power table has a form."""
    # In the form x stands with the first number; so each lower power is multiplied by it once more.
    found = times_powers(cofactor(steps), poly.numbers[0])
    divisor = common_divisor(found)
    low = [number // divisor for number in reversed(found)]
    return low + [0] * (poly.degree - len(low))


def first_place(row):
    """The place of the first number of a row that is not 0."""
    return [number != 0 for number in row].index(True)


def row_below(table, row, place):
    """A row at which the form is below 0, from one at which it is not above 0.

    The table makes of this one a row that is not 0 at the place.
    """
    if form_at(table, row) < 0:
        return row
    # At 1 at the place alone, and shares of the row, the form changes by twice the slope for each share.
    slope = table_times(table, row)[place]
    share = max(0, table[place][place] // (2 * abs(slope)) + 1)
    if slope > 0:
        share = -share
    found = [share * number for number in row]
    found[place] += 1
    return found


def all_real(poly):
    """Whether all roots of a poly are real."""
    need_low_poly(poly)
    steps, rest = broken_chain(lessened(poly))
    if not any(rest):
        return AllReal()
    # The lower the degree of the rest, the higher is the first power of x, times the cofactor, that tells of it.
    place = len(steps) + first_place(rest)
    return NotReal(row_below(power_table(poly), cofactor_row(poly, steps), place))


def within(poly, bound):
    """Whether a poly whose roots are all real has none above a bound."""
    told = bounded_real(poly, bound)
    if not told:
        raise Impossible(told)
    return told_within(poly, bound)


def bounded_real(poly, bound):
    """Whether all roots are real; too great a degree is told behind what is no Bound."""
    need_poly(poly, "poly")
    need_bound(bound, "bound")
    return all_real(poly)


def told_within(poly, bound):
    """What within tells of a poly whose roots are all real."""
    numbers = shifted(poly, bound)
    for at, number in enumerate(numbers):
        if sign_of(number) < 0:
            return SomeAbove(poly.degree - at)
    return NoneAbove(numbers)


def shows_all_real(poly, value):
    """Whether a value is a right paper of all_real."""
    need_low_poly(poly)
    if type(value) is NotReal:
        return is_row_below(poly, value.row)
    return type(value) is AllReal and bool(all_real(poly))


def is_row_below(poly, row):
    """Whether a value is a row at which the form of the power table is below 0."""
    if not are_integers(row) or len(row) != poly.degree:
        return False
    return form_at(power_table(poly), row) < 0


def shows_within(poly, bound, value):
    """Whether a value is the right paper of within."""
    return bool(bounded_real(poly, bound)) and is_same_paper(told_within(poly, bound), value)
