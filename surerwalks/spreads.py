"""Guesses, which of two is less spread, splittings that show it and hinges that show the contrary."""

from surerwalks.common import chances_of, dot, flipped, is_list, is_short, multiplied, numbers_of, scaled
from surerwalks.errors import InvalidGuess
from surerwalks.ratios import Ratio, is_number, ratio_of

MOST_WORTHS = 4


def guess_of(value):
    """The chances and the worths of a guess, as Ratios, tuples of two, None of any other value."""
    if not is_list(value) or len(value) < 1 or len(value) > MOST_WORTHS:
        return None
    parts = [numbers_of(part, 2) if isinstance(part, tuple) else None for part in value]
    if any([part is None for part in parts]):
        return None
    chances, worths = flipped(parts)
    if any([chance.sign <= 0 for chance in chances]) or Ratio.total(chances) != Ratio(1):
        return None
    if worths[0].sign < 0 or any([high.is_at_most(low) for low, high in zip(worths, worths[1:])]):
        return None
    return list(zip(chances, worths)) if dot(chances, worths) == Ratio(1) else None


def _parts_of(guess):
    parts = guess_of(guess)
    if parts is None:
        raise InvalidGuess(guess)
    return parts


def is_less_spread(guess, other):
    """Whether the first one is less spread."""
    return hinge(guess, other) is None


def is_hinge(guess, other, value):
    """Whether any value is a hinge."""
    parts, others = _parts_of(guess), _parts_of(other)
    return is_number(value) and _lift(parts, others, ratio_of(value)).sign > 0


def _lift(parts, others, at):
    """The mean of what the first one's worths are above the number, less the same of the second one."""
    return _above(parts, at) - _above(others, at)


def _above(parts, at):
    return Ratio.total([chance * (worth - at) for chance, worth in parts if at.is_below(worth)])


def hinge(guess, other):
    """A hinge, None if there is none."""
    parts, others = _parts_of(guess), _parts_of(other)
    tops, bottom = scaled([part[1] for part in parts + others])
    # Between two neighbouring worths the lift goes straight; at the least and the greatest one it is 0.
    points = [Ratio(top, bottom) for top in sorted(tops)]
    lifts = [_lift(parts, others, point) for point in points]
    steps = list(zip(points, lifts, points[1:], lifts[1:]))
    lows = [_crossing(*step) for step in steps if step[1].sign <= 0 and step[3].sign > 0]
    highs = [_crossing(*step) for step in steps if step[1].sign > 0 and step[3].sign <= 0]
    found = [_plainest(low, high) for low, high in zip(lows, highs)]
    for number in found:
        if all([number.bottom <= one.bottom for one in found]):
            return number
    return None


def _crossing(low, first, high, last):
    """Where what goes straight from the first to the last number is 0."""
    return low + (high - low) * first.over(first - last)


def _plainest(low, high):
    """The Ratio between two numbers, the lower one at least 0, whose top and bottom are the least."""
    wholes = []
    whole = low.top // low.bottom
    # While no whole number lies between, both are put upside down above the whole number they share.
    while (high - whole).is_at_most(1) and low != Ratio(whole):
        wholes.append(whole)
        low, high = Ratio(1).over(high - whole), Ratio(1).over(low - whole)
        whole = low.top // low.bottom
    rest = Ratio(1).over(high - whole)
    # The nearest whole number above, if it lies between.
    found = whole + Ratio(1, rest.top // rest.bottom + 1)
    for whole in wholes[::-1]:
        found = whole + Ratio(1).over(found)
    return found


def splitting(guess, other):
    """A splitting, None if there is none."""
    parts, others = _parts_of(guess), _parts_of(other)
    if hinge(guess, other) is not None:
        return None
    rows = []
    # Nearly always the first order does; others count where the numbers are very long.
    for order in _orders(len(parts)):
        rows = _split(parts, others, order)
        if is_short([number for row in rows for number in row]):
            break
    return rows


def _orders(many):
    """All orders of so many places, the ascending one first."""
    orders = [[]]
    for place in range(many):
        orders = [order[:at] + [place] + order[at:] for order in orders for at in range(place, -1, -1)]
    return orders


def _split(parts, others, order):
    """The splitting that takes, for one worth after the other, chances of neighbours among what is left.

    Beiglboeck and Juillet 2016: in whatever order, what is left can always be split among the worths to come.
    """
    worths = [worth for _, worth in others]
    left = [chance for chance, _ in others]
    rows = [left] * len(parts)
    for at in order:
        chance, worth = parts[at]
        taken = _taken(chance, worth, left, worths)
        left = [one - two for one, two in zip(left, taken)]
        rows[at] = [number.over(chance) for number in taken]
    return rows


def _taken(chance, worth, left, worths):
    """What is taken of what is left: neighbours, all but the outer two wholly, so much in all, with this mean."""
    many = len(left)
    blocks = [_block(chance, worth, left, worths, low, high) for low in range(many) for high in range(low, many)]
    return [block for block in blocks if block is not None][0]


def _block(chance, worth, left, worths, low, high):
    """What is taken from the low to the high one of what is left, None if these don't do."""
    taken = [number if low < at < high else Ratio(0) for at, number in enumerate(left)]
    more = chance - Ratio.total(taken)
    if low == high:
        taken[low] = more
        return taken if worth == worths[low] and more.is_at_most(left[low]) else None
    lack = chance * (worths[high] - worth) - Ratio.total([
        number * (worths[high] - other) for number, other in zip(taken, worths)
    ])
    taken[low] = lack.over(worths[high] - worths[low])
    taken[high] = more - taken[low]
    fits = all([0 <= taken[at].sign and taken[at].is_at_most(left[at]) for at in (low, high)])
    return taken if fits else None


def is_splitting(guess, other, value):
    """Whether any value is a splitting."""
    parts, others = _parts_of(guess), _parts_of(other)
    if not is_list(value):
        return False
    rows = [chances_of(row, len(others)) for row in value]
    if any([row is None for row in rows]):
        return False
    worths = [worth for _, worth in others]
    if [dot(row, worths) for row in rows] != [worth for _, worth in parts]:
        return False
    return multiplied([[chance for chance, _ in parts]], rows)[0] == [chance for chance, _ in others]
