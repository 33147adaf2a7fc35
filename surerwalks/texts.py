"""Written forms: values of seven sorts as strings of lines."""

from surerwalks.common import is_list, numbers_of
from surerwalks.errors import InvalidSort, InvalidValue
from surerwalks.parts import grid_of
from surerwalks.spreads import guess_of
from surerwalks.tables import table_of
from surerwalks.walks import LEAST_PLACES, MOST_PLACES, Walk, chance_rows

SORTS = ("numbers", "function", "table", "walk", "proposal", "guess", "grid")
MOST_NUMBERS = 60


def sorts():
    """The words of the sorts, in their sequence."""
    return list(SORTS)


def _check_sort(sort):
    if not isinstance(sort, str) or sort not in SORTS:
        raise InvalidSort(sort)


def are_enough(sort, many):
    """Whether numbers, or a function, may be so many."""
    if sort == "numbers":
        return many <= MOST_NUMBERS
    return LEAST_PLACES <= many <= MOST_PLACES


def is_of_sort(sort, value):
    """Whether any value is one of this sort."""
    _check_sort(sort)
    if sort == "walk":
        return isinstance(value, Walk)
    if sort in ("numbers", "function"):
        return is_list(value) and are_enough(sort, len(value)) and numbers_of(value, len(value)) is not None
    readers = {"table": table_of, "proposal": chance_rows, "guess": guess_of, "grid": grid_of}
    reader = readers[sort]
    return reader(value) is not None


def written(sort, value):
    """Its written form."""
    if not is_of_sort(sort, value):
        raise InvalidValue(value)
    if sort == "walk":
        rows = _rows("row", value.rows())
        return _line(sort, [value.places]) + rows + _line("shares", value.shares())
    if sort == "guess":
        return _line(sort, []) + _rows("part", value)
    if sort == "grid":
        return _line(sort, [len(value), len(value[0])]) + _rows("row", value)
    if sort in ("table", "proposal"):
        return _line(sort, [len(value)]) + _rows("row", value)
    return _line(sort, value)


def _rows(word, rows):
    return "".join([_line(word, row) for row in rows])


def _line(word, numbers):
    return " ".join([word] + [str(number) for number in numbers]) + "\n"
