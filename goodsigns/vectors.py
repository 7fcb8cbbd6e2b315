"""Vectors: rows of integers whose tables add up to one number times the table that has 1 where i is j."""

from goodsigns.checks import are_integers, is_row
from goodsigns.errors import BadText, BadVectors, Misfit
from goodsigns.rows import product_sum
from goodsigns.texts import integer_at, integer_text, items_of, need_end, need_item

MOST_VECTORS = 9
LONGEST_ROW = 3


class Vectors:
    """Vectors, told by their rows."""

    def __init__(self, rows):
        if not are_rows(rows):
            raise BadVectors("rows")
        if not add_up(rows):
            raise Misfit("sum")
        self.rows = tuple([tuple(row) for row in rows])
        self.total = sum([row[0] ** 2 for row in rows])
        self.longest = max([product_sum(row, row) for row in rows])

    def __eq__(self, other):
        return isinstance(other, Vectors) and self.rows == other.rows

    def __str__(self):
        return " ".join([str(len(self.rows[0])), ":"] + [integer_text(number) for row in self.rows for number in row])

    @staticmethod
    def read(text):
        """The Vectors whose text this is."""
        items = items_of(text)
        length = integer_at(items, 0, 1, LONGEST_ROW)
        need_item(items, 1, ":")
        rows = read_rows(items, length)
        if not add_up(rows):
            raise BadText(0, len(items) - 1)
        return Vectors(rows)


def are_rows(value):
    """Whether a value is a list of 1 to 9 lists, all of the same length, 1 to 3, of integers."""
    if not is_row(value) or not 1 <= len(value) <= MOST_VECTORS or not all([are_integers(row) for row in value]):
        return False
    return 1 <= len(value[0]) <= LONGEST_ROW and all([len(row) == len(value[0]) for row in value])


def columns_of(rows, length):
    """The columns of rows of this length, perhaps of none."""
    return [[row[at] for row in rows] for at in range(length)]


def add_up(rows):
    """Whether the tables of the rows add up to one number above 0 where i is j, and to 0 elsewhere."""
    columns = columns_of(rows, len(rows[0]))
    total = product_sum(columns[0], columns[0])
    if total == 0 or any([product_sum(column, column) != total for column in columns]):
        return False
    return not any([product_sum(columns[i], columns[j]) for i in range(len(columns)) for j in range(i)])


def read_rows(items, length):
    """The rows that stand behind the colon of a text, one at least."""
    rows = []
    at = 2
    while at < max(len(items), 3) and len(rows) < MOST_VECTORS:
        rows.append([integer_at(items, at + place, None, None) for place in range(length)])
        at = at + length
    need_end(items, at)
    return rows


def need_vectors(value, part):
    """The value, if it is Vectors."""
    if not isinstance(value, Vectors):
        raise BadVectors(part)
    return value
