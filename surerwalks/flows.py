"""Flows of walks, and walks with more or less of a ring."""

from surerwalks.common import flipped, places_of, square_of
from surerwalks.errors import InvalidMuch, InvalidRing, InvalidTable, TooMuch
from surerwalks.ratios import Ratio, is_number, ratio_of
from surerwalks.walks import LEAST_PLACES, MOST_PLACES, Walk, check_walk

LEAST_RING = 3


def flow(walk):
    """The table of each place's share times its chances."""
    check_walk(walk)
    return [[share * chance for chance in row] for share, row in zip(walk.shares(), walk.rows())]


def walk_of_flow(table):
    """The Walk that has this flow."""
    rows = square_of(table, LEAST_PLACES, MOST_PLACES)
    if rows is None or not _is_flow(rows):
        raise InvalidTable(table)
    return _walk_of(rows)


def _is_flow(rows):
    if any([number.sign < 0 for row in rows for number in row]):
        return False
    shares = [Ratio.total(row) for row in rows]
    if any([share.sign == 0 for share in shares]) or Ratio.total(shares) != Ratio(1):
        return False
    return shares == [Ratio.total(column) for column in flipped(rows)]


def _walk_of(rows):
    shares = [Ratio.total(row) for row in rows]
    return Walk([[number.over(share) for number in row] for row, share in zip(rows, shares)], shares)


def _ring_of(walk, ring):
    """The steps of a ring, tuples of two places; what is no ring of the walk's places is refused."""
    places = places_of(ring, walk.places)
    if places is None or len(places) < LEAST_RING:
        raise InvalidRing(ring)
    return list(zip(places, places[1:] + places[:1]))


def _least(numbers):
    least = numbers[0]
    for number in numbers:
        if number.is_below(least):
            least = number
    return least


def _room(rows, steps):
    """The least and the greatest much of a ring with which no flow is below 0."""
    return -_least([rows[i][j] for i, j in steps]), _least([rows[j][i] for i, j in steps])


def room_of_ring(walk, ring):
    """The tuple of the least and the greatest much."""
    check_walk(walk)
    steps = _ring_of(walk, ring)
    return _room(flow(walk), steps)


def with_ring(walk, ring, much):
    """The Walk with so much of the ring."""
    check_walk(walk)
    steps = _ring_of(walk, ring)
    if not is_number(much):
        raise InvalidMuch(much)
    more = ratio_of(much)
    rows = flow(walk)
    least, greatest = _room(rows, steps)
    if more.is_below(least) or greatest.is_below(more):
        raise TooMuch()
    for i, j in steps:
        rows[i][j] = rows[i][j] + more
        rows[j][i] = rows[j][i] - more
    return _walk_of(rows)
