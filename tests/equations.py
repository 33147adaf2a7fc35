"""Equations solved by fractions of Python's own, beside the package."""

from fractions import Fraction


def plain(number):
    """A number of the package as a Fraction."""
    return Fraction(number) if isinstance(number, int) else Fraction(number.top, number.bottom)


def plains(numbers):
    return [plain(number) for number in numbers]


def solve(rows, rights):
    """The only list of numbers that the rows, number by number, add up with to the rights."""
    many = len(rows)
    left = [[Fraction(number) for number in row] + [Fraction(right)] for row, right in zip(rows, rights)]
    for at in range(many):
        found = next(i for i in range(at, many) if left[i][at] != 0)
        left[at], left[found] = left[found], left[at]
        left[at] = [number / left[at][at] for number in left[at]]
        for i in range(many):
            if i != at:
                left[i] = [one - left[i][at] * two for one, two in zip(left[i], left[at])]
    return [row[-1] for row in left]


def sums_on_the_way(steps, worths):
    """The mean of the sum of worths on the way from each state, and of its square, until the way ends.

    steps: for each state a dict of the chances of the next ones.
    """
    states = list(steps)
    rows = [[int(one == two) - steps[one].get(two, Fraction(0)) for two in states] for one in states]
    first = dict(zip(states, solve(rows, [worths[one] for one in states])))
    rights = [
        worths[one] ** 2 + 2 * worths[one] * sum(chance * first[two] for two, chance in steps[one].items())
        for one in states
    ]
    return first, dict(zip(states, solve(rows, rights)))


def told_error(rows, shares, worths):
    """By what the walk is ahead by: the mean of the square of how far each step strays from what is expected."""
    places = range(len(rows))
    middle = sum(share * number for share, number in zip(shares, worths))
    # One equation follows from the others: that the mean is 0 stands in its place.
    even = [[int(i == j) - rows[i][j] for j in places] for i in places]
    ahead = solve(even[:-1] + [shares], [number - middle for number in worths[:-1]] + [0])
    nexts = [sum(rows[i][j] * ahead[j] for j in places) for i in places]
    return sum(shares[i] * rows[i][j] * (ahead[j] - nexts[i]) ** 2 for i in places for j in places)
