"""Controls: functions of mean 0 that are taken away from a function so that it strays less."""

from surerwalks.common import dot, flipped, is_list, is_short, multiplied, numbers_of, solved
from surerwalks.errors import InvalidControls, InvalidNumbers
from surerwalks.forms import worth_at
from surerwalks.ratios import Ratio
from surerwalks.strays import error_table, function_of
from surerwalks.walks import check_walk

MOST_CONTROLS = 3


def control(walk, function):
    """The function less its mean at the next place."""
    check_walk(walk)
    return _control(walk, function_of(walk, function))


def _control(walk, worths):
    return [own - dot(row, worths) for own, row in zip(worths, walk.rows())]


def _controls_of(walk, value):
    """The control that each of these functions makes; what are no controls is refused."""
    if not is_list(value) or len(value) < 1 or len(value) > MOST_CONTROLS:
        raise InvalidControls(value)
    functions = [numbers_of(one, walk.places) for one in value]
    if any([one is None for one in functions]):
        raise InvalidControls(value)
    return [_control(walk, one) for one in functions]


def controlled(walk, function, controls, numbers):
    """The error of the function less the controls times the numbers."""
    check_walk(walk)
    worths = function_of(walk, function)
    taken = _controls_of(walk, controls)
    told = numbers_of(numbers, len(taken))
    if told is None:
        raise InvalidNumbers(numbers)
    return worth_at(error_table(walk), _left(worths, taken, told))


def _left(worths, taken, numbers):
    """The worths less the controls times the numbers."""
    gone = multiplied([numbers], taken)[0]
    return [one - other for one, other in zip(worths, gone)]


def best_numbers(walk, function, controls):
    """Numbers with which no others lead to a smaller error."""
    check_walk(walk)
    worths = function_of(walk, function)
    taken = _controls_of(walk, controls)
    return _best(error_table(walk), worths, taken)


def best_error(walk, function, controls):
    """The error with best numbers."""
    check_walk(walk)
    worths = function_of(walk, function)
    taken = _controls_of(walk, controls)
    table = error_table(walk)
    return worth_at(table, _left(worths, taken, _best(table, worths, taken)))


def _best(table, worths, taken):
    """Best numbers: with them what is left hangs together, by the table, with no control."""
    crossed = multiplied(taken, table)
    form = multiplied(crossed, flipped(taken))
    rights = [dot(row, worths) for row in crossed]
    found = []
    # As many controls as possible of which none is made of the others; the rest is not needed.
    for many in (3, 2, 1, 0):
        for chosen in _choices(len(taken), many):
            numbers = _alone(form, rights, chosen)
            if numbers is not None:
                found.append(numbers)
        if found:
            break
    return ([numbers for numbers in found if is_short(numbers)] + found)[0]


def _choices(size, many):
    """The lists of so many places of so many, each above the one ahead."""
    lots = [[at for at in range(size) if mask >> at & 1] for mask in range(1 << size)]
    return [lot for lot in lots if len(lot) == many]


def _alone(form, rights, chosen):
    """The only numbers that solve the equations at the chosen places, with 0 elsewhere, None if there are others."""
    core = [[form[i][j] for j in chosen] for i in chosen]
    found = solved(core, [[rights[i]] for i in chosen])
    if found is None:
        return None
    numbers = [Ratio(0)] * len(rights)
    for at, row in zip(chosen, found):
        numbers[at] = row[0]
    return numbers
