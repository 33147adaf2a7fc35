"""Meetings: two walks by the same rows, the first of them a step ahead, until they meet."""

from surerwalks.common import dot, multiplied, sums_to_come
from surerwalks.errors import InvalidWay, NeverMeet
from surerwalks.ratios import Ratio
from surerwalks.strays import function_of, start_of
from surerwalks.walks import check_walk

APART = "apart"
NEAR = "near"


def _check_way(way):
    if not isinstance(way, str) or way not in (APART, NEAR):
        raise InvalidWay(way)


def meets_surely(walk, start, way):
    """Whether both meet surely."""
    check_walk(walk)
    chances = start_of(walk, start)
    _check_way(way)
    return _all_meet(_steps(walk.rows(), chances, way))


def meeting_means(walk, start, function, way):
    """The tuple of the means of the function's meeting sum, and of its square."""
    check_walk(walk)
    chances = start_of(walk, start)
    worths = function_of(walk, function)
    _check_way(way)
    steps = _steps(walk.rows(), chances, way)
    if not _all_meet(steps):
        raise NeverMeet()
    return _means(walk.rows(), chances, worths, steps)


def _steps(rows, chances, way):
    """For each pair of unlike places that both can come to, the chances of the next such pairs.

    The first place of a pair is that of the walk that is a step ahead.
    """
    places = range(len(rows))
    nexts = multiplied([chances], rows)[0]
    waiting = [(x, y) for x in places for y in places if x != y and (nexts[x] * chances[y]).sign > 0]
    steps = {}
    while waiting:
        pair = waiting.pop()
        if pair not in steps:
            steps[pair] = _steps_from(rows[pair[0]], rows[pair[1]], way)
            waiting.extend(list(steps[pair]))
    return steps


def _steps_from(row, other, way):
    """The chances of the next pairs of unlike places, where they are above 0; with the rest both meet."""
    if way == NEAR:
        alike = [two if two.is_below(one) else one for one, two in zip(row, other)]
    else:
        alike = [Ratio(0)] * len(row)
    rest = 1 - Ratio.total(alike)
    firsts = [one - both for one, both in zip(row, alike)]
    seconds = [two - both for two, both in zip(other, alike)]
    return {
        (x, y): (one * two).over(rest)
        for x, one in enumerate(firsts) for y, two in enumerate(seconds)
        if x != y and one.sign > 0 and two.sign > 0
    }


def _all_meet(steps):
    """Whether both can meet from each of these pairs."""
    stuck = {
        pair: True for pair, nexts in steps.items()
        if Ratio.total(list(nexts.values())) == Ratio(1)
    }
    # Who can't meet at once can meet if a pair from which one can may be next.
    while True:
        kept = {pair: True for pair in stuck if all([after in stuck for after in steps[pair]])}
        if len(kept) == len(stuck):
            return not kept
        stuck = kept


def _means(rows, chances, worths, steps):
    pairs = list(steps)
    table = [[steps[pair].get(after, Ratio(0)) for after in pairs] for pair in pairs]
    firsts, squared = sums_to_come(table, [worths[x] - worths[y] for x, y in pairs])
    weighed = [chance * number for chance, number in zip(chances, worths)]
    nexts, heavy = multiplied([chances, weighed], rows)
    plain = [nexts[x] * chances[y] for x, y in pairs]
    # The first worth hangs together with the first pair, so their product is weighed by both.
    crossed = dot([heavy[x] * chances[y] for x, y in pairs], firsts)
    return (
        Ratio.total(weighed) + dot(plain, firsts),
        dot(weighed, worths) + 2 * crossed + dot(plain, squared),
    )
