"""What the other files share: lists of numbers looked at, and rows reckoned with exactly."""

from math import lcm

from surerwalks.basics import is_integer
from surerwalks.ratios import Ratio, is_number, ratio_of

# Numbers of at most so many bits have at most 2,000 digits.
SHORT_BITS = 6643
DIGITS = "0123456789"


def is_list(value):
    """Whether it counts as a list: tuples are accepted where lists are wanted."""
    return isinstance(value, (list, tuple))


def numbers_of(value, many):
    """The Ratios of a list of so many NUMBERS, None of any other value."""
    if not is_list(value) or len(value) != many:
        return None
    if not all([is_number(number) for number in value]):
        return None
    return [ratio_of(number) for number in value]


def square_of(value, least, most):
    """The rows, as Ratios, of a table with at least and at most so many, None of any other value."""
    if not is_list(value) or len(value) < least or len(value) > most:
        return None
    rows = [numbers_of(row, len(value)) for row in value]
    return None if any([row is None for row in rows]) else rows


def chances_of(value, many):
    """The Ratios of a list of so many NUMBERS at least 0 that add up to 1, None of any other value."""
    numbers = numbers_of(value, many)
    if numbers is None or any([number.sign < 0 for number in numbers]):
        return None
    return numbers if Ratio.total(numbers) == Ratio(1) else None


def places_of(value, many):
    """The INTEGERS of a list of unlike places of so many, None of any other value."""
    if not is_list(value) or not all([is_integer(place) for place in value]):
        return None
    if not all([0 <= place < many for place in value]):
        return None
    return list(value) if len(set(value)) == len(value) else None


def copied(value):
    """The same with new lists and tuples."""
    if isinstance(value, list):
        return [copied(part) for part in value]
    if isinstance(value, tuple):
        return tuple([copied(part) for part in value])
    return value


def count_in(word):
    """The COUNT that is written so, None of any other word."""
    if word == "" or any([sign not in DIGITS for sign in word]):
        return None
    return int(word) if word == "0" or word[0] != "0" else None


def number_in(word):
    """The NUMBER that is written so, as a Ratio, None of any other word."""
    top, stroke, bottom = word.partition("/")
    high = count_in(top[1:] if top.startswith("-") else top)
    low = count_in(bottom) if stroke else 1
    if high is None or low is None or low == 0:
        return None
    number = Ratio(-high if top.startswith("-") else high, low)
    # What is not in lowest terms, and a needless sign or stroke, is written otherwise.
    return number if str(number) == word else None


def unit_rows(many):
    """The table with 1 in the diagonal and 0 elsewhere."""
    return [[Ratio(1 if i == j else 0) for j in range(many)] for i in range(many)]


def flipped(rows):
    """The columns as rows."""
    return [list(column) for column in zip(*rows)]


def scaled(numbers):
    """INTEGERS and one common bottom, for Ratios."""
    bottom = 1
    for number in numbers:
        bottom = lcm(bottom, number.bottom)
    return [number.top * (bottom // number.bottom) for number in numbers], bottom


def dot(left, right):
    """The sum of the products of two lists, number by number."""
    return _paired(scaled(left), scaled(right))


def multiplied(rows, others):
    """The product of rows of Ratios with others."""
    lefts = [scaled(row) for row in rows]
    rights = [scaled(column) for column in flipped(others)]
    return [[_paired(left, right) for right in rights] for left in lefts]


def _paired(left, right):
    (tops, bottom), (others, low) = left, right
    return Ratio(sum([top * other for top, other in zip(tops, others)]), bottom * low)


def crossed(row, head, at, last):
    """The row of INTEGERS cleared at this column by the head's row.

    The pivot ahead of this one divides all that is left, so no fractions are needed.
    """
    return [(head[at] * top - row[at] * high) // last for top, high in zip(row, head)]


def cleared(rows, many):
    """Rows of INTEGERS cleared at each of the first columns but for one number in the diagonal.

    A tuple of the rows, this number, and 1 or -1 as rows were swapped; None if that can't be done.
    """
    left, last, turn = rows, 1, 1
    for at in range(many):
        found = [i for i in range(at, many) if left[i][at] != 0]
        if not found:
            return None
        if found[0] != at:
            left = _swapped(left, at, found[0])
            turn = -turn
        head = left[at]
        left = [row if i == at else crossed(row, head, at, last) for i, row in enumerate(left)]
        last = head[at]
    return left, last, turn


def _swapped(rows, one, two):
    order = list(range(len(rows)))
    order[one], order[two] = two, one
    return [rows[i] for i in order]


def solved(rows, rights):
    """The table whose product with the rows, on their right, is the rights; None if they have no inverse."""
    many = len(rows)
    wide = [scaled(row + right)[0] for row, right in zip(rows, rights)]
    done = cleared(wide, many)
    if done is None:
        return None
    left, last = done[0], done[1]
    return [[Ratio(top, last) for top in row[many:]] for row in left]


def less(rows, others):
    """A table less another one, entry by entry."""
    return [[one - other for one, other in zip(row, line)] for row, line in zip(rows, others)]


def times(rows, number):
    """A table times a NUMBER, entry by entry."""
    return [[number * one for one in row] for row in rows]


def blended(rows, others, part):
    """The part, a Ratio, times a table, and the rest times another one, added entry by entry."""
    rest = 1 - part
    return [[part * one + rest * two for one, two in zip(row, line)] for row, line in zip(rows, others)]


def sums_to_come(rows, worths):
    """For each place the mean of the sum of the worths met from there on, and that of the square of this sum.

    A tuple of both lists. The rows tell the chances to go on; where they lack of 1, the way ends.
    """
    going = less(unit_rows(len(rows)), rows)
    firsts = [row[0] for row in solved(going, [[number] for number in worths])]
    # What comes behind the first worth is the sum less this worth: it counts twice with it.
    squared = [[number * (2 * first - number)] for number, first in zip(worths, firsts)]
    return firsts, [row[0] for row in solved(going, squared)]


def is_short(numbers):
    """Whether no INTEGER of these Ratios has more than 2,000 digits."""
    return all([max(abs(number.top), number.bottom).bit_length() <= SHORT_BITS for number in numbers])


def shortened(number, bits):
    """A Ratio near to this one, nearer to 0, with only so many bits that count."""
    top, bottom = abs(number.top), number.bottom
    shift = bits + bottom.bit_length() - top.bit_length()
    if shift >= 0:
        near = chopped(number.size(), shift)
    else:
        near = Ratio((top // (bottom << -shift)) << -shift)
    return -near if number.sign < 0 else near


def chopped(number, bits):
    """The greatest Ratio with so many bits behind the point that is not greater."""
    return Ratio((number.top << bits) // number.bottom, 1 << bits)


def power_of_two(bits):
    """2 times itself so often, or 1 over it so often."""
    return Ratio(1 << bits) if bits >= 0 else Ratio(1, 1 << -bits)
