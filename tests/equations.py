"""Equations solved by fractions of Python's own, beside the package."""

from fractions import Fraction


def plain(number):
    """A number of the package as a Fraction."""
    return Fraction(number) if isinstance(number, int) else Fraction(number.top, number.bottom)


def plains(numbers):
    return [plain(number) for number in numbers]


def solve(rows, rights):
    """The only list of numbers that the rows, number by number, add up with to the rights."""
    many = len(rows)
    left = [[Fraction(number) for number in row] + [Fraction(right)] for row, right in zip(rows, rights)]
    for at in range(many):
        found = next(i for i in range(at, many) if left[i][at] != 0)
        left[at], left[found] = left[found], left[at]
        left[at] = [number / left[at][at] for number in left[at]]
        for i in range(many):
            if i != at:
                left[i] = [one - left[i][at] * two for one, two in zip(left[i], left[at])]
    return [row[-1] for row in left]


def sums_on_the_way(steps, worths):
    """The mean of the sum of worths on the way from each state, and of its square, until the way ends.

    steps: for each state a dict of the chances of the next ones.
    """
    states = list(steps)
    rows = [[int(one == two) - steps[one].get(two, Fraction(0)) for two in states] for one in states]
    first = dict(zip(states, solve(rows, [worths[one] for one in states])))
    rights = [
        worths[one] ** 2 + 2 * worths[one] * sum(chance * first[two] for two, chance in steps[one].items())
        for one in states
    ]
    return first, dict(zip(states, solve(rows, rights)))
