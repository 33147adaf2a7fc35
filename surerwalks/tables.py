"""Tables: products, turned tables, inverses and determinants."""

from surerwalks.common import cleared, flipped, multiplied, scaled, solved, square_of, unit_rows
from surerwalks.errors import InvalidTable, UnlikeSizes
from surerwalks.ratios import Ratio

MOST_ROWS = 12


def table_of(value):
    """The rows of a table, None of any other value."""
    return square_of(value, 1, MOST_ROWS)


def _rows_of(table):
    rows = table_of(table)
    if rows is None:
        raise InvalidTable(table)
    return rows


def product(table, other):
    """The product of two tables of one size."""
    rows, others = _rows_of(table), _rows_of(other)
    if len(rows) != len(others):
        raise UnlikeSizes()
    return multiplied(rows, others)


def turned(table):
    """The table with rows for columns."""
    return flipped(_rows_of(table))


def inverse(table):
    """The inverse, None if there is none."""
    rows = _rows_of(table)
    return solved(rows, unit_rows(len(rows)))


def determinant(table):
    """The determinant."""
    told = [scaled(row) for row in _rows_of(table)]
    done = cleared([part[0] for part in told], len(told))
    if done is None:
        return Ratio(0)
    bottom = 1
    for part in told:
        bottom = bottom * part[1]
    return Ratio(done[1] * done[2], bottom)
