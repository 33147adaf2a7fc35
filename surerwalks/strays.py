"""How far averages along a walk stray from the mean."""

from surerwalks.basics import is_count
from surerwalks.common import chances_of, dot, flipped, multiplied, numbers_of, unit_rows
from surerwalks.errors import InvalidFunction, InvalidMany, InvalidStart
from surerwalks.forms import worth_at
from surerwalks.ratios import Ratio
from surerwalks.tables import inverse
from surerwalks.walks import MOST_STEPS, check_walk, check_whole


def function_of(walk, function):
    """The worths of a function of the walk, as Ratios; others are refused."""
    worths = numbers_of(function, walk.places)
    if worths is None:
        raise InvalidFunction(function)
    return worths


def start_of(walk, start):
    """The chances of a start of the walk, as Ratios; others are refused."""
    chances = chances_of(start, walk.places)
    if chances is None:
        raise InvalidStart(start)
    return chances


def check_steps(many):
    """Refuses all but COUNTS of steps."""
    if not is_count(many) or many < 1 or many > MOST_STEPS:
        raise InvalidMany(many)


def mean(walk, function):
    """The sum of shares times worths."""
    check_walk(walk)
    return dot(walk.shares(), function_of(walk, function))


def spread(walk, function):
    """The mean of the squares of the worths less their mean."""
    check_walk(walk)
    offs = _offs(walk, function_of(walk, function))
    return dot(walk.shares(), [off * off for off in offs])


def _offs(walk, worths):
    """The worths less their mean."""
    middle = dot(walk.shares(), worths)
    return [number - middle for number in worths]


def spread_table(walk):
    """The form whose worth at a function is its spread."""
    check_walk(walk)
    shares = walk.shares()
    units = unit_rows(walk.places)
    return [
        [share * (one - other) for one, other in zip(unit, shares)]
        for share, unit in zip(shares, units)
    ]


def ahead(walk, function):
    """What the walk is ahead by."""
    check_walk(walk)
    worths = function_of(walk, function)
    check_whole(walk)
    offs = _offs(walk, worths)
    return [dot(row, offs) for row in _summed(walk.rows(), walk.shares())]


def _summed(rows, shares):
    """The inverse of 1 less the rows, with the shares added to each row."""
    return inverse([
        [one - chance + share for one, chance, share in zip(unit, row, shares)]
        for unit, row in zip(unit_rows(len(rows)), rows)
    ])


def error_table(walk):
    """The form whose worth at a function is the limit of steps times the mean square of averages off the mean."""
    check_walk(walk)
    check_whole(walk)
    return error_rows(walk.rows(), walk.shares())


def error_rows(rows, shares):
    """The error table of up to twelve rows of chances that keep these shares alone."""
    weighed = [[share * number for number in row] for share, row in zip(shares, _summed(rows, shares))]
    units = unit_rows(len(rows))
    return [
        [
            weighed[x][y] + weighed[y][x] - share * (units[x][y] + other)
            for y, other in enumerate(shares)
        ]
        for x, share in enumerate(shares)
    ]


def error(walk, function):
    """The worth of the error table at the function."""
    check_walk(walk)
    worths = function_of(walk, function)
    return worth_at(error_table(walk), worths)


def after_table(walk, start, many):
    """The form whose worth at a function is so many steps times the mean square of averages off the mean."""
    check_walk(walk)
    chances = start_of(walk, start)
    check_steps(many)
    halves = _half_products(walk, chances, many)
    # Both halves, and the function less its mean by the shares.
    rows = [[one + two for one, two in zip(row, line)] for row, line in zip(halves, flipped(halves))]
    shares = walk.shares()
    sums = [Ratio.total(row) for row in rows]
    whole = Ratio.total(sums)
    return [
        [
            (rows[i][j] - shares[i] * sums[j] - sums[i] * shares[j] + shares[i] * shares[j] * whole).over(many)
            for j in range(walk.places)
        ]
        for i in range(walk.places)
    ]


def _half_products(walk, chances, many):
    """The table whose worth at a function is half the mean of the square of the sum of worths at so many places."""
    rows = walk.rows()
    units = unit_rows(walk.places)
    half = Ratio(1, 2)
    # For each count of steps that are left: how often each place is met from each one, now at half.
    met = units
    left = []
    for _ in range(many):
        left.append([[number - half * one for number, one in zip(row, unit)] for row, unit in zip(met, units)])
        met = [
            [one + number for one, number in zip(unit, row)]
            for unit, row in zip(units, multiplied(rows, met))
        ]
    table = [[Ratio(0)] * walk.places for row in rows]
    now = chances
    for k in range(many):
        table = [
            [number + chance * more for number, more in zip(line, row)]
            for line, chance, row in zip(table, now, left[many - 1 - k])
        ]
        now = multiplied([now], rows)[0]
    return table


def after(walk, start, many, function):
    """The worth of the table after so many steps at the function."""
    check_walk(walk)
    chances = start_of(walk, start)
    check_steps(many)
    worths = function_of(walk, function)
    return worth_at(after_table(walk, chances, many), worths)
