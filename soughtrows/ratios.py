"""Fractions of whole numbers."""

from math import gcd

from soughtrows.basics import is_integer, is_list
from soughtrows.errors import DividedByZero, InvalidNumber


class Ratio:
    """A fraction in lowest terms, its bottom at least 1."""

    def __init__(self, top, bottom=1):
        if not is_integer(top):
            raise InvalidNumber(top)
        if not is_integer(bottom) or bottom == 0:
            raise InvalidNumber(bottom)
        common = gcd(top, bottom)
        if bottom < 0:
            common = -common
        self._top = top // common
        self._bottom = bottom // common

    @classmethod
    def total(cls, numbers):
        """The sum of a list of NUMBERS."""
        if not is_list(numbers):
            raise InvalidNumber(numbers)
        found = cls(0)
        for number in numbers:
            found = found + number
        return found

    @property
    def top(self):
        return self._top

    @property
    def bottom(self):
        return self._bottom

    @property
    def sign(self):
        if self._top < 0:
            return -1
        return 1 if self._top > 0 else 0

    @property
    def is_whole(self):
        return self._bottom == 1

    def __eq__(self, other):
        return isinstance(other, Ratio) and self._top == other._top and self._bottom == other._bottom

    def __str__(self):
        if self._bottom == 1:
            return str(self._top)
        return f"{self._top}/{self._bottom}"

    def __repr__(self):
        return f"Ratio({self._top}, {self._bottom})"

    def __neg__(self):
        return Ratio(-self._top, self._bottom)

    def __add__(self, other):
        right = as_ratio(other)
        return Ratio(self._top * right._bottom + right._top * self._bottom, self._bottom * right._bottom)

    def __radd__(self, other):
        return as_ratio(other) + self

    def __sub__(self, other):
        right = as_ratio(other)
        return Ratio(self._top * right._bottom - right._top * self._bottom, self._bottom * right._bottom)

    def __rsub__(self, other):
        return as_ratio(other) - self

    def __mul__(self, other):
        right = as_ratio(other)
        return Ratio(self._top * right._top, self._bottom * right._bottom)

    def __rmul__(self, other):
        return as_ratio(other) * self

    def over(self, other):
        """This number divided by another NUMBER."""
        right = as_ratio(other)
        if right.sign == 0:
            raise DividedByZero()
        return Ratio(self._top * right.bottom, self._bottom * right.top)

    def size(self):
        """This number without its sign."""
        return Ratio(abs(self._top), self._bottom)

    def is_below(self, other):
        """Whether this number is less than another NUMBER."""
        return (self - other).sign < 0

    def is_at_most(self, other):
        """Whether this number is not greater than another NUMBER."""
        return (self - other).sign <= 0


def is_number(value):
    """Whether any value is a NUMBER."""
    return is_integer(value) or isinstance(value, Ratio)


def as_ratio(number):
    """A NUMBER as a Ratio; whatever else is refused."""
    if isinstance(number, Ratio):
        return number
    return Ratio(number)


def are_numbers(value, many):
    """Whether any value is a list of so many NUMBERS."""
    return is_list(value) and len(value) == many and all([is_number(number) for number in value])
