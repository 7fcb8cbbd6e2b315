"""Tables and their polys."""

from goodsigns.checks import are_integers, is_row
from goodsigns.errors import BadNumber
from goodsigns.polys import Poly
from goodsigns.rows import product_sum, table_times

MOST_ROWS = 24


def is_table(value):
    """Whether a value is a table: as many rows as integers in each, and alike on both sides of the diagonal."""
    if not is_row(value) or not all([are_integers(row) and len(row) == len(value) for row in value]):
        return False
    return all([value[i][j] == value[j][i] for i in range(len(value)) for j in range(i)])


def row_factors(table, size):
    """What the poly of the first rows is multiplied by as the row behind them is added.

    These are the first numbers of a series in 1 / x: x, less the last integer of
    the row, less what the row makes of the powers of the table ahead of it.
    """
    ahead = table[:size]
    powers = [table[size][:size]]
    for _ in range(size // 2):
        powers.append(table_times(ahead, powers[-1]))
    # The table is alike on both sides, so each power can be shared out between both rows of a product.
    products = [product_sum(powers[k // 2], powers[(k + 1) // 2]) for k in range(size)]
    return [1, -table[size][size]] + [-number for number in products]


def table_numbers(table):
    """The numbers of the poly of a table, that of the highest power first."""
    numbers = [1]
    for size in range(len(table)):
        factors = row_factors(table, size)
        numbers = [product_sum(numbers, factors[at::-1]) for at in range(size + 2)]
    return numbers


def table_poly(table):
    """The poly of a table of 1 to 24 rows."""
    if not is_table(table) or not 1 <= len(table) <= MOST_ROWS:
        raise BadNumber("table")
    return Poly(table_numbers(table))
