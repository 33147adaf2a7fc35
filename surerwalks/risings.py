"""Which of two walks with like shares is surer for functions that rise, or behind so many steps."""

from surerwalks.common import chopped, is_short, less, numbers_of
from surerwalks.forms import below, is_mild, is_never_below, unmild, worth_at
from surerwalks.orders import difference
from surerwalks.ratios import Ratio
from surerwalks.strays import after_table, check_steps
from surerwalks.walks import check_pair, check_walk


def is_surer_rising(walk, other):
    """Whether the walk is surer for rising functions."""
    return is_mild(_form_of_steps(difference(walk, other)))


def _form_of_steps(rows):
    """The form of the steps between neighbouring places: each step adds to the places from it on."""
    many = len(rows)
    return [
        [
            Ratio.total([number for row in rows[low:] for number in row[high:]])
            for high in range(1, many)
        ]
        for low in range(1, many)
    ]


def worse_rising(walk, other):
    """A function that rises at which the walk's error is greater, None if there is none."""
    form = _form_of_steps(difference(walk, other))
    steps = unmild(form)
    if steps is None:
        return None
    worths = _climbed(steps)
    return worths if is_short(worths) else _climbed(_short_steps(form, steps))


def _climbed(steps):
    """The function of these steps that begins at 0."""
    worths = [Ratio(0)]
    for step in steps:
        worths.append(worths[-1] + step)
    return worths


def _short_steps(form, steps):
    """Steps below the form, near to these, which are, whose sums have no INTEGER that is too long."""
    greatest = steps[0]
    for step in steps:
        if greatest.is_below(step):
            greatest = step
    even = [step.over(greatest) for step in steps]
    bits = 8
    near = [chopped(step, bits) for step in even]
    while worth_at(form, near).sign >= 0:
        bits = bits * 2
        near = [chopped(step, bits) for step in even]
    return near


def is_worse_rising_paper(walk, other, value):
    """Whether any value is a function that rises at which the walk's error is greater."""
    rows = difference(walk, other)
    worths = numbers_of(value, len(rows))
    if worths is None or any([high.is_below(low) for low, high in zip(worths, worths[1:])]):
        return False
    return worth_at(rows, worths).sign < 0


def is_surer_after(walk, other, many):
    """Whether the walk is surer behind so many steps."""
    return is_never_below(_difference_after(walk, other, many))


def worse_after(walk, other, many):
    """A function with a greater worth of the walk's table behind so many steps, None if there is none."""
    return below(_difference_after(walk, other, many))


def _difference_after(walk, other, many):
    """The other one's form of so many steps, begun by the shares, less the walk's."""
    check_walk(walk)
    check_walk(other)
    check_steps(many)
    check_pair(walk, other)
    return less(after_table(other, other.shares(), many), after_table(walk, walk.shares(), many))
