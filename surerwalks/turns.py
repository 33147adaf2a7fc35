"""Walks in turn, thinned, lazy, and with more or less of a ring."""

from surerwalks.common import times
from surerwalks.errors import InvalidPart
from surerwalks.flows import with_ring
from surerwalks.ratios import Ratio
from surerwalks.strays import check_steps, error_rows, error_table
from surerwalks.walks import check_walk, check_whole, lazy, part_of, power, then


def turn_table(walk, other):
    """The form whose worth is the limit for a step of the walk, a step of the other, again and again."""
    check_whole(then(walk, other))
    many = walk.places
    # A walk of twice as many places: each of them ahead of a step of the walk, and ahead of one of the other.
    none = [Ratio(0)] * many
    rows = [none + row for row in walk.rows()] + [row + none for row in other.rows()]
    half = [Ratio(1, 2) * share for share in walk.shares()]
    table = error_rows(rows, half + half)
    return [
        [Ratio.total([table[i][j], table[i + many][j], table[i][j + many], table[i + many][j + many]])
         for j in range(many)]
        for i in range(many)
    ]


def thin_table(walk, many):
    """So many times the error table of the power, each many-th place counting."""
    check_walk(walk)
    check_steps(many)
    return times(error_table(power(walk, many)), many)


def lazy_table(walk, part):
    """The error table of the walk that stays by the part, which is below 1."""
    check_walk(walk)
    if part_of(part) == Ratio(1):
        raise InvalidPart(part)
    return error_table(lazy(walk, part))


def ring_table(walk, ring, much):
    """The error table of the walk with so much of the ring."""
    return error_table(with_ring(walk, ring, much))
