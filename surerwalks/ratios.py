"""Fractions of integers, reckoned exactly."""

from math import gcd, lcm

from surerwalks.basics import is_integer
from surerwalks.errors import DividedByZero, InvalidNumber


class Ratio:
    """A fraction in lowest terms, its bottom at least 1. It never changes."""

    def __init__(self, top, bottom=1):
        if not is_integer(top):
            raise InvalidNumber(top)
        if not is_integer(bottom) or bottom == 0:
            raise InvalidNumber(bottom)
        common = gcd(top, bottom)
        if bottom < 0:
            common = -common
        self._top = top // common
        self._bottom = bottom // common

    @property
    def top(self):
        return self._top

    @property
    def bottom(self):
        return self._bottom

    @property
    def sign(self):
        if self._top == 0:
            return 0
        return 1 if self._top > 0 else -1

    @property
    def is_whole(self):
        return self._bottom == 1

    def __add__(self, other):
        top, bottom = _terms(other)
        return Ratio(self._top * bottom + top * self._bottom, self._bottom * bottom)

    def __radd__(self, other):
        top, bottom = _terms(other)
        return Ratio(top * self._bottom + self._top * bottom, bottom * self._bottom)

    def __sub__(self, other):
        top, bottom = _terms(other)
        return Ratio(self._top * bottom - top * self._bottom, self._bottom * bottom)

    def __rsub__(self, other):
        top, bottom = _terms(other)
        return Ratio(top * self._bottom - self._top * bottom, bottom * self._bottom)

    def __mul__(self, other):
        top, bottom = _terms(other)
        return Ratio(self._top * top, self._bottom * bottom)

    def __rmul__(self, other):
        top, bottom = _terms(other)
        return Ratio(top * self._top, bottom * self._bottom)

    def __neg__(self):
        return Ratio(-self._top, self._bottom)

    def over(self, other):
        """It divided by a NUMBER."""
        top, bottom = _terms(other)
        if top == 0:
            raise DividedByZero()
        return Ratio(self._top * bottom, self._bottom * top)

    def size(self):
        """It without its sign."""
        return Ratio(abs(self._top), self._bottom)

    def is_below(self, other):
        """Whether it is less than a NUMBER."""
        top, bottom = _terms(other)
        return self._top * bottom < top * self._bottom

    def is_at_most(self, other):
        """Whether it is not greater than a NUMBER."""
        top, bottom = _terms(other)
        return self._top * bottom <= top * self._bottom

    def __eq__(self, other):
        return isinstance(other, Ratio) and self._top == other._top and self._bottom == other._bottom

    def __str__(self):
        if self._bottom == 1:
            return str(self._top)
        return f"{self._top}/{self._bottom}"

    def __repr__(self):
        return f"Ratio({self._top}, {self._bottom})"

    @classmethod
    def total(cls, numbers):
        """The sum of a list of NUMBERS."""
        if not isinstance(numbers, (list, tuple)):
            raise InvalidNumber(numbers)
        parts = [_terms(number) for number in numbers]
        # One common bottom for all needs a single reduction, at the end.
        common = 1
        for part in parts:
            common = lcm(common, part[1])
        return cls(sum([top * (common // bottom) for top, bottom in parts]), common)


def is_number(value):
    """Whether any value is a NUMBER: an INTEGER or a Ratio."""
    return isinstance(value, Ratio) or is_integer(value)


def ratio_of(number):
    """The Ratio of the worth of a NUMBER."""
    return number if isinstance(number, Ratio) else Ratio(number)


def _terms(number):
    """The top and the bottom of a NUMBER, refused if it is none."""
    if isinstance(number, Ratio):
        return number._top, number._bottom
    if is_integer(number):
        return number, 1
    raise InvalidNumber(number)
