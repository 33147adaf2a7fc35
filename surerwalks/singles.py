"""Walks that propose the same at each place, walks that draw anew, and those among others."""

from surerwalks.common import chances_of, is_list, scaled
from surerwalks.errors import InvalidChances, InvalidWeights
from surerwalks.ratios import Ratio
from surerwalks.rules import greatest_rule, shares_of, walk_by, weights_of
from surerwalks.walks import LEAST_PLACES, MOST_PLACES, Walk


def _is_long_enough(value):
    """Whether it is a list with a part for each of 2 to 6 places."""
    return is_list(value) and LEAST_PLACES <= len(value) <= MOST_PLACES


def _drawn_of(value):
    """The Ratios of chances above 0; others are refused."""
    numbers = chances_of(value, len(value)) if _is_long_enough(value) else None
    if numbers is None or any([number.sign == 0 for number in numbers]):
        raise InvalidChances(value)
    return numbers


def _lone_weights_of(value):
    """The weights of 2 to 6 places, as Ratios; others are refused."""
    if not _is_long_enough(value):
        raise InvalidWeights(value)
    return weights_of(value, len(value))


def _greatest_walk(rows, weights):
    return walk_by(rows, weights, greatest_rule(rows, weights))


def single(chances, weights):
    """The single Walk."""
    drawn = _drawn_of(chances)
    numbers = weights_of(weights, len(drawn))
    return _greatest_walk([drawn] * len(drawn), numbers)


def roots(chances, weights):
    """The roots of the single walk but for one 1, the greatest first."""
    drawn = _drawn_of(chances)
    shares = shares_of(weights_of(weights, len(drawn)))
    quotients = [share.over(chance) for share, chance in zip(shares, drawn)]
    order = _falling(quotients)
    found = []
    for at in range(len(order) - 1):
        behind = order[at:]
        more = Ratio.total([shares[place] for place in behind])
        found.append(Ratio.total([drawn[place] for place in behind]) - more.over(quotients[order[at]]))
    return found


def _falling(numbers):
    """The places of the numbers, that of the greatest one first."""
    tops = scaled(numbers)[0]
    return [at for top, at in sorted([(top, at) for at, top in enumerate(tops)], reverse=True)]


def fresh(weights):
    """The Walk that goes to each place with its share."""
    shares = shares_of(_lone_weights_of(weights))
    return Walk([shares] * len(shares), shares)


def among_others(weights):
    """The Walk to which the other places are proposed by their shares."""
    shares = shares_of(_lone_weights_of(weights))
    rows = [
        [share.over(1 - own) if i != j else Ratio(0) for j, share in enumerate(shares)]
        for i, own in enumerate(shares)
    ]
    return _greatest_walk(rows, shares)
