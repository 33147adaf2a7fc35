"""Walks: their rows and shares, closed lots, walks backwards, put together, renamed."""

from surerwalks.basics import is_count
from surerwalks.common import blended, chances_of, flipped, is_list, multiplied, places_of, solved, unit_rows
from surerwalks.errors import InvalidMany, InvalidOrder, InvalidPart, InvalidRows, InvalidShares, InvalidWalk
from surerwalks.errors import NotWhole, UnlikePlaces, UnlikeShares
from surerwalks.ratios import Ratio, is_number, ratio_of

LEAST_PLACES = 2
MOST_PLACES = 6
MOST_STEPS = 12


class Walk:
    """Rows of chances, and shares that they keep. It never changes."""

    def __init__(self, rows, shares):
        chances = chance_rows(rows)
        if chances is None:
            raise InvalidRows(rows)
        kept = chances_of(shares, len(chances))
        if kept is None or any([share.sign == 0 for share in kept]) or multiplied([kept], chances) != [kept]:
            raise InvalidShares(shares)
        self._rows = chances
        self._shares = kept

    @property
    def places(self):
        return len(self._rows)

    def rows(self):
        """For each place the chances of the next one."""
        return [list(row) for row in self._rows]

    def shares(self):
        """The share of each place."""
        return list(self._shares)

    def __eq__(self, other):
        return isinstance(other, Walk) and self._rows == other._rows and self._shares == other._shares


def chance_rows(value):
    """The rows of a walk, as Ratios, None of any other value."""
    if not is_list(value) or len(value) < LEAST_PLACES or len(value) > MOST_PLACES:
        return None
    rows = [chances_of(row, len(value)) for row in value]
    return None if any([row is None for row in rows]) else rows


def check_walk(walk):
    """Refuses all but Walks."""
    if not isinstance(walk, Walk):
        raise InvalidWalk(walk)


def check_pair(walk, other):
    """Refuses two Walks that have not as many places, or unlike shares."""
    if walk.places != other.places:
        raise UnlikePlaces()
    if walk.shares() != other.shares():
        raise UnlikeShares()


def check_whole(walk):
    """Refuses a Walk that is not whole."""
    if not is_whole(walk):
        raise NotWhole()


def part_of(value):
    """The Ratio of a NUMBER from 0 to 1; others are refused."""
    if not is_number(value):
        raise InvalidPart(value)
    part = ratio_of(value)
    if part.sign < 0 or Ratio(1).is_below(part):
        raise InvalidPart(value)
    return part


def walk_of(rows):
    """The Walk of these rows with their only shares."""
    chances = chance_rows(rows)
    if chances is None:
        raise InvalidRows(rows)
    if left_lot(chances) is not None:
        raise NotWhole()
    return Walk(chances, _only_shares(chances))


def _only_shares(rows):
    """The shares that the rows of a whole walk keep."""
    units = unit_rows(len(rows))
    # One of the equations follows from the others; that the shares add up to 1 stands in its place.
    even = [[one - chance for one, chance in zip(unit, column)] for unit, column in zip(units, flipped(rows))]
    found = solved(even[:-1] + [[Ratio(1)] * len(rows)], [[number] for number in units[-1]])
    return [row[0] for row in found]


def left_lot(rows):
    """The places that one can come to from some place, if these are not all, None if there is no such place."""
    for place in range(len(rows)):
        lot = _reached(rows, place)
        if len(lot) < len(rows):
            return lot
    return None


def _reached(rows, place):
    """The places that one can come to from this one, itself among them, each above the one ahead."""
    seen = {place: True}
    waiting = [place]
    while waiting:
        at = waiting.pop()
        for after, chance in enumerate(rows[at]):
            if chance.sign > 0 and after not in seen:
                seen[after] = True
                waiting.append(after)
    return sorted(list(seen))


def closed_lot(walk):
    """A closed lot of its places, None if the walk is whole."""
    check_walk(walk)
    return left_lot(walk.rows())


def is_whole(walk):
    """Whether from each place one can come to each other one."""
    return closed_lot(walk) is None


def backwards(walk):
    """The Walk backwards."""
    check_walk(walk)
    shares = walk.shares()
    columns = flipped(walk.rows())
    rows = [
        [(share * chance).over(own) for share, chance in zip(shares, column)]
        for own, column in zip(shares, columns)
    ]
    return Walk(rows, shares)


def is_alike_backwards(walk):
    """Whether the walk backwards is the same."""
    return backwards(walk) == walk


def then(walk, other):
    """A step of the walk, then one of the other, as one step."""
    check_walk(walk)
    check_walk(other)
    check_pair(walk, other)
    return Walk(multiplied(walk.rows(), other.rows()), walk.shares())


def mixed(walk, other, part):
    """At each step by the part a step of the walk, else one of the other."""
    check_walk(walk)
    check_walk(other)
    first = part_of(part)
    check_pair(walk, other)
    return _mixed(walk, other, first)


def _mixed(walk, other, part):
    return Walk(blended(walk.rows(), other.rows(), part), walk.shares())


def lazy(walk, part):
    """By the part one stays, else makes a step."""
    check_walk(walk)
    return _mixed(_staying(walk), walk, part_of(part))


def _staying(walk):
    return Walk(unit_rows(walk.places), walk.shares())


def power(walk, many):
    """So many steps as one."""
    check_walk(walk)
    if not is_count(many) or many > MOST_STEPS:
        raise InvalidMany(many)
    rows = unit_rows(walk.places)
    for _ in range(many):
        rows = multiplied(rows, walk.rows())
    return Walk(rows, walk.shares())


def renamed(walk, order):
    """What was the place i is now the place that stands at i in the order."""
    check_walk(walk)
    names = places_of(order, walk.places)
    if names is None or len(names) < walk.places:
        raise InvalidOrder(order)
    # Each new place asks which one it was.
    olds = [names.index(place) for place in range(walk.places)]
    rows, shares = walk.rows(), walk.shares()
    return Walk([[rows[i][j] for j in olds] for i in olds], [shares[i] for i in olds])
