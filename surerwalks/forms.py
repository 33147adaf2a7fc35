"""Forms: their worth, squares that show them never below 0, and lists that show the contrary."""

from surerwalks.common import crossed, dot, flipped, is_list, is_short, multiplied, numbers_of
from surerwalks.common import chopped, power_of_two, scaled, shortened, solved, unit_rows
from surerwalks.errors import InvalidForm, InvalidRow, TooMany
from surerwalks.ratios import Ratio, is_number, ratio_of
from surerwalks.tables import table_of

MOST_MILD = 5


def _rows_of(form):
    rows = table_of(form)
    if rows is None or rows != flipped(rows):
        raise InvalidForm(form)
    return rows


def worth(form, row):
    """The worth of the form at a list of NUMBERS."""
    rows = _rows_of(form)
    numbers = numbers_of(row, len(rows))
    if numbers is None:
        raise InvalidRow(row)
    return worth_at(rows, numbers)


def worth_at(rows, numbers):
    """The worth of a form of Ratios at a list of Ratios."""
    return dot([dot(row, numbers) for row in rows], numbers)


def is_never_below(form):
    """Whether no list is below the form."""
    return _parted(_rows_of(form))[1] is None


def squares(form):
    """Squares of the form, None if there are none."""
    rows = _rows_of(form)
    taken, tilt = _parted(rows)
    if tilt is not None:
        return None
    parts = [(size, line) for at, size, line in taken]
    if all([is_short([size] + line) for size, line in parts]):
        return parts
    return _short_squares(rows, [part[0] for part in taken])


def are_squares(form, value):
    """Whether any value is squares of the form."""
    rows = _rows_of(form)
    if not is_list(value):
        return False
    parts = [_square_of(part, len(rows)) for part in value]
    if any([part is None for part in parts]):
        return False
    return _added_up(parts, len(rows)) == rows


def _square_of(value, many):
    """The Ratio above 0 and the list of Ratios of one square, None of any other value."""
    if not isinstance(value, tuple) or len(value) != 2:
        return None
    size, line = value
    numbers = numbers_of(line, many)
    if not is_number(size) or numbers is None:
        return None
    return (ratio_of(size), numbers) if ratio_of(size).sign > 0 else None


def _added_up(parts, many):
    """The form that squares are of."""
    if not parts:
        return [[Ratio(0)] * many for i in range(many)]
    columns = flipped([part[1] for part in parts])
    weighed = [[size * number for number in line] for size, line in parts]
    return multiplied(columns, weighed)


def below(form):
    """A list below the form, None if there is none."""
    rows = _rows_of(form)
    taken, tilt = _parted(rows)
    if tilt is None:
        return None
    # Where the squares that were taken off are 0, only what was left of the form counts.
    numbers = tilt
    for at, size, line in taken[::-1]:
        gone = -dot(line, numbers)
        numbers = numbers[:at] + [gone] + numbers[at + 1:]
    return _short_below(rows, numbers)


def _short_below(rows, numbers):
    """A list below the form, near to this one, which is, with no INTEGER that is too long."""
    if is_short(numbers):
        return numbers
    bits = 8
    near = [shortened(number, bits) for number in numbers]
    while worth_at(rows, near).sign >= 0:
        bits = bits * 2
        near = [shortened(number, bits) for number in numbers]
    return near


def _parted(rows):
    """Squares are taken off the form, place by place, until nothing is left or something is below 0.

    A tuple of the squares, each with its place, and of a list below what is left, None if nothing is.
    """
    told = [scaled(row) for row in rows]
    left, last, taken = [part[0] for part in told], 1, []
    for at, part in enumerate(told):
        head = left[at]
        if head[at] < 0:
            return taken, unit_rows(len(rows))[at]
        others = [j for j, number in enumerate(head) if number != 0]
        if head[at] == 0 and others:
            heads = Ratio(left[others[0]][others[0]], told[others[0]][1]), Ratio(head[others[0]], part[1])
            return taken, _tilted(len(rows), at, others[0], heads)
        if head[at] > 0:
            taken.append((at, Ratio(head[at], last * part[1]), [Ratio(number, head[at]) for number in head]))
            left = [crossed(row, head, at, last) for row in left]
            last = head[at]
    return taken, None


def _tilted(many, at, other, heads):
    """A list below a form that has 0 in the diagonal at one place, but not at its crossing with the other.

    The heads are the numbers of the form, or as many times of both, in the diagonal of the other place
    and at the crossing.
    """
    corner, crossing = heads
    tilt = -(corner.size() + crossing.size()).over(crossing)
    numbers = [Ratio(0)] * many
    numbers[at], numbers[other] = tilt, Ratio(1)
    return numbers


def _short_squares(rows, kept):
    """Squares of a form never below 0 whose INTEGERS are hardly longer than those of the form.

    The kept places alone make a form that is above 0, but where all numbers are 0.
    """
    core = [[rows[i][j] for j in kept] for i in kept]
    across = solved(core, [rows[i] for i in kept])
    # Halves of the lengths: with them the numbers in the diagonal are near to 1.
    halves = [(row[i].top.bit_length() - row[i].bottom.bit_length()) // 2 for i, row in enumerate(core)]
    even = [
        [number * power_of_two(-halves[i] - halves[j]) for j, number in enumerate(row)]
        for i, row in enumerate(core)
    ]
    bits = 64
    parts = _near_squares(even, bits)
    while parts is None:
        bits = bits * 2
        parts = _near_squares(even, bits)
    spread = [[number * power_of_two(half) for number in row] for half, row in zip(halves, across)]
    return [(size, multiplied([line], spread)[0]) for size, line in parts]


def _near_squares(rows, bits):
    """Squares of a form above 0, with so many bits behind the point, and squares of the small rest.

    None if there are too few bits. The numbers in the diagonal are from 1/2 to 4.
    """
    # The diagonal gets a bit less: 16 shares. The numbers there are below 4, so that all that is cut off
    # from one beside it is less than 5 times 2 ** -bits, and that is less than a share.
    less = power_of_two(16 - bits)
    left = [
        [chopped(number, 2 * bits) - (less if i == j else 0) for j, number in enumerate(row)]
        for i, row in enumerate(rows)
    ]
    parts = []
    for at in range(len(rows)):
        size = chopped(left[at][at], bits)
        if size.sign <= 0:
            return None
        line = [chopped(number.over(size), bits) if j > at else Ratio(0) for j, number in enumerate(left[at])]
        line[at] = Ratio(1)
        parts.append((size, line))
        left = [[number - size * line[i] * line[j] for j, number in enumerate(row)] for i, row in enumerate(left)]
    near = _added_up(parts, len(rows))
    rest = [[number - other for number, other in zip(row, told)] for row, told in zip(rows, near)]
    return parts + _rest_squares(rest, less.over(16))


def _rest_squares(rest, share):
    """Squares of a form with at least this share in the diagonal for each number beside it.

    No number beside the diagonal is, without its sign, greater than the share. What the diagonal has left is
    not added up to one number: a sum of long fractions is longer than they are.
    """
    many = len(rest)
    units = unit_rows(many)
    parts = []
    for i, row in enumerate(rest):
        for j in range(i):
            line = [one + other * row[j].sign for one, other in zip(units[i], units[j])]
            parts.append((row[j].size(), line))
        for j, number in enumerate(row):
            spare = number - share * (many - 1) if i == j else share - number.size()
            parts.append((spare, units[i]))
    return [(size, list(line)) for size, line in parts if size.sign > 0]


def is_mild(form):
    """Whether no list of numbers at least 0 is below the form."""
    return unmild(form) is None


def unmild(form):
    """A list of Ratios at least 0 that is below the form, None if there is none."""
    rows = _rows_of(form)
    if len(rows) > MOST_MILD:
        raise TooMany("rows", MOST_MILD)
    for mask in range(1, 1 << len(rows)):
        numbers = _unmild_at(rows, [i for i in range(len(rows)) if mask >> i & 1])
        if numbers is not None:
            return _short_below(rows, numbers)
    return None


def _unmild_at(rows, chosen):
    """A list below the form with numbers above 0 at most at the chosen places, None if this doesn't tell one.

    Hadeler 1983: a form is not mild exactly if at some of its places it has an inverse in which no number
    is above 0; the sums of the rows of this inverse, without their sign, are then below it. Here they
    are told as quotients, which are shorter.
    """
    core = [[rows[i][j] for j in chosen] for i in chosen]
    found = solved(core, unit_rows(len(chosen)))
    if found is None or any([number.sign > 0 for row in found for number in row]):
        return None
    sums = [Ratio.total(row) for row in found]
    numbers = [Ratio(0)] * len(rows)
    for i, size in zip(chosen, sums):
        numbers[i] = size.over(sums[0])
    return numbers
