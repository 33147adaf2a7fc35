"""Grids: the weights of pairs, walks that redraw their parts, and means given the second part."""

from surerwalks.basics import is_integer
from surerwalks.common import flipped, is_list, multiplied, numbers_of
from surerwalks.errors import InvalidFunction, InvalidGrid, InvalidWhich
from surerwalks.ratios import Ratio
from surerwalks.rules import shares_of
from surerwalks.strays import error_table
from surerwalks.walks import Walk, mixed, then

LEAST_PARTS = 2
MOST_PAIRS = 6


def are_sides(rows, columns):
    """Whether a grid may have so many rows and columns."""
    # So neither are there more than three of them.
    return min(rows, columns) >= LEAST_PARTS and rows * columns <= MOST_PAIRS


def grid_of(value):
    """The rows of a grid, as Ratios, None of any other value."""
    if not is_list(value) or not all([is_list(row) for row in value]):
        return None
    if len(value) == 0 or not are_sides(len(value), len(value[0])):
        return None
    rows = [numbers_of(row, len(value[0])) for row in value]
    if any([row is None for row in rows]):
        return None
    return rows if all([number.sign > 0 for row in rows for number in row]) else None


def _rows_of(grid):
    rows = grid_of(grid)
    if rows is None:
        raise InvalidGrid(grid)
    return rows


def grid_shares(grid):
    """The weights over their sum, pair by pair."""
    return shares_of([number for row in _rows_of(grid) for number in row])


def _seconds(rows):
    """For each first part the chances of the second ones."""
    return [shares_of(row) for row in rows]


def _firsts(rows):
    """For each second part the chances of the first ones."""
    return _seconds(flipped(rows))


def redraw(grid, which):
    """The Walk that redraws this part of the pairs."""
    rows = _rows_of(grid)
    if not is_integer(which) or which not in (0, 1):
        raise InvalidWhich(which)
    return _redrawn(rows, which)


def _redrawn(rows, which):
    pairs = [(i, j) for i in range(len(rows)) for j in range(len(rows[0]))]
    if which == 0:
        firsts = _firsts(rows)
        table = [[firsts[j][k] if j == m else Ratio(0) for k, m in pairs] for i, j in pairs]
    else:
        seconds = _seconds(rows)
        table = [[seconds[i][m] if i == k else Ratio(0) for k, m in pairs] for i, j in pairs]
    return Walk(table, grid_shares(rows))


def scan(grid):
    """The Walk that redraws the first part, then the second one."""
    rows = _rows_of(grid)
    return then(_redrawn(rows, 0), _redrawn(rows, 1))


def by_lot(grid):
    """The Walk that redraws one of both parts, each by half."""
    rows = _rows_of(grid)
    return mixed(_redrawn(rows, 0), _redrawn(rows, 1), Ratio(1, 2))


def seen(grid):
    """The Walk of the first parts."""
    return _seen(_rows_of(grid))


def _seen(rows):
    return Walk(multiplied(_seconds(rows), _firsts(rows)), shares_of([Ratio.total(row) for row in rows]))


def given_means(grid, function):
    """For each second part the mean of the function of the first parts where it stands."""
    rows = _rows_of(grid)
    worths = numbers_of(function, len(rows))
    if worths is None:
        raise InvalidFunction(function)
    return [row[0] for row in multiplied(_firsts(rows), [[number] for number in worths])]


def raw_table(grid):
    """The error table of the seen walk."""
    return error_table(seen(grid))


def given_table(grid):
    """The form whose worth is how far averages of the given means stray."""
    rows = _rows_of(grid)
    # The second parts that are drawn go by the seen walk of the grid turned about.
    firsts = _firsts(rows)
    across = multiplied(error_table(_seen(flipped(rows))), firsts)
    return multiplied(flipped(firsts), across)
