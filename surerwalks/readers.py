"""Written forms read back, or the first line of a string that is wrong."""

from surerwalks.common import chances_of, count_in, number_in
from surerwalks.errors import InvalidShares, InvalidText
from surerwalks.parts import are_sides
from surerwalks.ratios import Ratio
from surerwalks.spreads import MOST_WORTHS, guess_of
from surerwalks.tables import MOST_ROWS
from surerwalks.texts import are_enough
from surerwalks.walks import LEAST_PLACES, MOST_PLACES, Walk


def read(text):
    """The tuple of the sort and the value that has this written form."""
    if not isinstance(text, str):
        raise InvalidText(0)
    lines = text.split("\n")
    # Behind the last line feed nothing stands, else this is a line without one.
    full, rest = [line.split(" ") for line in lines[:-1]], lines[-1]
    if not full:
        raise InvalidText(1)
    value, many = _value_of(full[0][0], full)
    if len(full) > many or rest != "":
        raise InvalidText(many + 1)
    return full[0][0], value


def _value_of(sort, lines):
    """The value, and how many of the lines tell it."""
    if sort in ("numbers", "function"):
        numbers = _numbers(lines[0][1:])
        if numbers is None or not are_enough(sort, len(numbers)):
            raise InvalidText(1)
        return numbers, 1
    if sort == "guess":
        return _guess(lines), len(lines)
    if sort == "grid":
        return _grid(lines)
    if sort not in ("table", "walk", "proposal"):
        raise InvalidText(1)
    many = _size(sort, lines[0][1:])
    rows = [_row(sort, lines, at + 1, many) for at in range(many)]
    if sort == "walk":
        return _walk(rows, lines), many + 2
    return rows, many + 1


def _numbers(words):
    """The NUMBERS of these words, None if one of them is none."""
    numbers = [number_in(word) for word in words]
    return None if any([number is None for number in numbers]) else numbers


def _size(sort, words):
    """How many rows the first line tells."""
    many = count_in(words[0]) if len(words) == 1 else None
    least, most = (1, MOST_ROWS) if sort == "table" else (LEAST_PLACES, MOST_PLACES)
    if many is None or many < least or many > most:
        raise InvalidText(1)
    return many


def _told(word, lines, at, many):
    """The so many NUMBERS behind the word of the line at this position."""
    if at >= len(lines) or lines[at][0] != word or len(lines[at]) != many + 1:
        raise InvalidText(at + 1)
    numbers = _numbers(lines[at][1:])
    if numbers is None:
        raise InvalidText(at + 1)
    return numbers


def _row(sort, lines, at, many):
    """A row of a table, or of chances."""
    numbers = _told("row", lines, at, many)
    if sort != "table" and chances_of(numbers, many) is None:
        raise InvalidText(at + 1)
    return numbers


def _walk(rows, lines):
    at = len(rows) + 1
    shares = _told("shares", lines, at, len(rows))
    try:
        return Walk(rows, shares)
    except InvalidShares:
        raise InvalidText(at + 1) from None


def _grid(lines):
    """The rows of a grid, and how many lines tell it."""
    sides = [count_in(word) for word in lines[0][1:]]
    if len(sides) != 2 or any([side is None for side in sides]) or not are_sides(sides[0], sides[1]):
        raise InvalidText(1)
    rows = []
    for at in range(1, sides[0] + 1):
        row = _told("row", lines, at, sides[1])
        if any([number.sign <= 0 for number in row]):
            raise InvalidText(at + 1)
        rows.append(row)
    return rows, sides[0] + 1


def _guess(lines):
    """The tuples of a guess, which all lines behind the first one tell."""
    if len(lines[0]) > 1:
        raise InvalidText(1)
    parts = []
    for at in range(1, len(lines)):
        part = _told("part", lines, at, 2)
        if not _goes_on(parts, part):
            raise InvalidText(at + 1)
        parts.append(tuple(part))
    if guess_of(parts) is None:
        raise InvalidText(len(lines) + 1)
    return parts


def _goes_on(parts, part):
    """Whether the part may stand behind the parts of a guess."""
    chance, worth = part
    chances = [told[0] for told in parts] + [chance]
    if len(chances) > MOST_WORTHS or chance.sign <= 0 or Ratio(1).is_below(Ratio.total(chances)):
        return False
    return worth.sign >= 0 and (not parts or parts[-1][1].is_below(worth))
