"""Which of two walks with like shares is the surer one, with squares or a function that show it."""

from surerwalks.common import flipped, less, numbers_of, times
from surerwalks.errors import InvalidCost
from surerwalks.flows import flow
from surerwalks.forms import are_squares, below, is_never_below, squares, worth_at
from surerwalks.ratios import Ratio, is_number, ratio_of
from surerwalks.strays import error_table
from surerwalks.walks import check_pair, check_walk


def difference(walk, other):
    """The other one's error table less the walk's."""
    check_walk(walk)
    check_walk(other)
    return _costly_difference(walk, Ratio(1), other, Ratio(1))


def _costly_difference(walk, cost, other, other_cost):
    """The other one's cost times its error table, less the same of the walk."""
    check_pair(walk, other)
    return less(times(error_table(other), other_cost), times(error_table(walk), cost))


def step_form(walk, other):
    """The even part of the other one's flow less the walk's."""
    check_walk(walk)
    check_walk(other)
    check_pair(walk, other)
    more = less(flow(other), flow(walk))
    return [
        [Ratio(1, 2) * (one + two) for one, two in zip(row, line)]
        for row, line in zip(more, flipped(more))
    ]


def is_surer(walk, other):
    """Whether the walk is surer than the other one."""
    return is_never_below(difference(walk, other))


def surer_squares(walk, other):
    """Squares of the difference, None if the walk is not surer."""
    return squares(difference(walk, other))


def is_surer_paper(walk, other, value):
    """Whether any value is squares of the difference."""
    return are_squares(difference(walk, other), value)


def worse_function(walk, other):
    """A function at which the walk's error is greater than the other one's, None if the walk is surer."""
    return below(difference(walk, other))


def is_worse_paper(walk, other, value):
    """Whether any value is a function at which the walk's error is greater than the other one's."""
    rows = difference(walk, other)
    worths = numbers_of(value, len(rows))
    return worths is not None and worth_at(rows, worths).sign < 0


def is_cheaper(walk, cost, other, other_cost):
    """Whether for no function the walk's cost times its error is greater than the same of the other one."""
    check_walk(walk)
    own = _cost_of(cost)
    check_walk(other)
    return is_never_below(_costly_difference(walk, own, other, _cost_of(other_cost)))


def _cost_of(value):
    """The Ratio of a NUMBER above 0; others are refused."""
    if not is_number(value) or ratio_of(value).sign <= 0:
        raise InvalidCost(value)
    return ratio_of(value)
