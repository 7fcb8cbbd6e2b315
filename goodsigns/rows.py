"""Rows of integers, and what a table makes of them."""


def product_sum(one, other):
    """The sum of the products of two rows, place by place, as far as both reach."""
    return sum([mine * its for mine, its in zip(one, other)])


def table_times(table, row):
    """What a table makes of a row: for each row of the table the sum of the products."""
    return [product_sum(each, row) for each in table]
