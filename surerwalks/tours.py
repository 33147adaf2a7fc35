"""Tours of a whole walk: from a place on until the step ahead of coming back there."""

from surerwalks.basics import is_count
from surerwalks.common import dot, sums_to_come
from surerwalks.errors import InvalidPlace
from surerwalks.strays import function_of
from surerwalks.walks import check_walk, check_whole


def tour_means(walk, place, function):
    """The tuple of the means of a tour's sum from the place, and of its square."""
    check_walk(walk)
    if not is_count(place) or place >= walk.places:
        raise InvalidPlace(place)
    worths = function_of(walk, function)
    check_whole(walk)
    return _means(walk.rows(), place, worths)


def _means(rows, place, worths):
    others = [i for i in range(len(rows)) if i != place]
    firsts, squared = sums_to_come(
        [[rows[i][j] for j in others] for i in others],
        [worths[i] for i in others],
    )
    nexts = [rows[place][j] for j in others]
    own, rest = worths[place], dot(nexts, firsts)
    return own + rest, own * (own + 2 * rest) + dot(nexts, squared)
