"""Fractions in lowest terms, reckoned exactly."""

from math import gcd, lcm

from rootsround.basics import is_integer
from rootsround.errors import DividedByZero, InvalidNumber


def is_number(value):
    """Whether the value is a NUMBER: an INTEGER or a Ratio."""
    return isinstance(value, Ratio) or is_integer(value)


def halves(value):
    """The top and the bottom of a NUMBER."""
    if isinstance(value, Ratio):
        return value.top, value.bottom
    if not is_integer(value):
        raise InvalidNumber(value)
    return value, 1


def ratio_of(value):
    """The Ratio that is worth as much as a NUMBER."""
    return value if isinstance(value, Ratio) else Ratio(value)


class Ratio:
    """A fraction in lowest terms, its bottom at least 1."""

    def __init__(self, top, bottom=1):
        if not is_integer(top):
            raise InvalidNumber(top)
        if not is_integer(bottom) or bottom == 0:
            raise InvalidNumber(bottom)
        shared = gcd(top, bottom)
        if bottom < 0:
            shared = -shared
        self._top = top // shared
        self._bottom = bottom // shared

    @property
    def top(self):
        return self._top

    @property
    def bottom(self):
        return self._bottom

    @property
    def sign(self):
        """-1, 0 or 1."""
        if self._top < 0:
            return -1
        return 1 if self._top > 0 else 0

    @property
    def is_whole(self):
        """Whether the bottom is 1."""
        return self._bottom == 1

    def __add__(self, other):
        top, bottom = halves(other)
        return Ratio(self._top * bottom + top * self._bottom, self._bottom * bottom)

    def __radd__(self, other):
        return self + other

    def __sub__(self, other):
        top, bottom = halves(other)
        return Ratio(self._top * bottom - top * self._bottom, self._bottom * bottom)

    def __rsub__(self, other):
        return -self + other

    def __mul__(self, other):
        top, bottom = halves(other)
        return Ratio(self._top * top, self._bottom * bottom)

    def __rmul__(self, other):
        return self * other

    def __neg__(self):
        return Ratio(-self._top, self._bottom)

    def over(self, other):
        """Divided by a NUMBER."""
        top, bottom = halves(other)
        if top == 0:
            raise DividedByZero()
        return Ratio(self._top * bottom, self._bottom * top)

    def size(self):
        """The Ratio without its sign."""
        return Ratio(abs(self._top), self._bottom)

    def is_below(self, other):
        """Whether it is less than a NUMBER."""
        top, bottom = halves(other)
        return self._top * bottom < top * self._bottom

    def is_at_most(self, other):
        """Whether it is not greater than a NUMBER."""
        top, bottom = halves(other)
        return self._top * bottom <= top * self._bottom

    @classmethod
    def total(cls, numbers):
        """The sum of a list of NUMBERS."""
        if not isinstance(numbers, (list, tuple)):
            raise InvalidNumber(numbers)
        top, bottom = 0, 1
        for number in numbers:
            upper, lower = halves(number)
            shared = lcm(bottom, lower)
            top = top * (shared // bottom) + upper * (shared // lower)
            bottom = shared
        return cls(top, bottom)

    def __eq__(self, other):
        return isinstance(other, Ratio) and self._top == other._top and self._bottom == other._bottom

    def __str__(self):
        if self._bottom == 1:
            return str(self._top)
        return f"{self._top}/{self._bottom}"

    def __repr__(self):
        return f"Ratio({self._top}, {self._bottom})"
