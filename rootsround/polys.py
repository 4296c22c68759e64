"""Polynomials: lists of 0 to 61 NUMBERS by rising powers."""

from rootsround.errors import InvalidPoly, NoughtPoly, TooMany
from rootsround.plain import added, composed, grown, lessened, multiplied, parted, slope, trimmed, worth_at
from rootsround.ratios import is_number, ratio_of

MOST_NUMBERS = 61
MOST_DEGREE = 60


def is_poly(value):
    """Whether the value is a list of 0 to 61 NUMBERS."""
    if not isinstance(value, (list, tuple)) or len(value) > MOST_NUMBERS:
        return False
    return all([is_number(number) for number in value])


def told(poly):
    """The polynomial as a list of Ratios without a nought at its end."""
    if not is_poly(poly):
        raise InvalidPoly(poly)
    return trimmed([ratio_of(number) for number in poly])


def degree(poly):
    """The position of the last number that is not 0; -1 of nought."""
    return len(told(poly)) - 1


def plus(poly, other):
    """The sum of both."""
    first, second = told(poly), told(other)
    return added(first, second)


def minus(poly, other):
    """The first one less the other one."""
    first, second = told(poly), told(other)
    return lessened(first, second)


def times(poly, other):
    """The product of both, of a degree of at most 60."""
    first, second = told(poly), told(other)
    if first and second and len(first) + len(second) - 2 > MOST_DEGREE:
        raise TooMany("degree", MOST_DEGREE)
    return multiplied(first, second)


def scaled(poly, number):
    """The polynomial times a number."""
    numbers = told(poly)
    return grown(numbers, ratio_of(number))


def derived(poly):
    """The polynomial derived."""
    return slope(told(poly))


def put_in(poly, other):
    """The polynomial with the other one in the place of x, of a degree of at most 60."""
    outer, inner = told(poly), told(other)
    if max(0, len(outer) - 1) * max(0, len(inner) - 1) > MOST_DEGREE:
        raise TooMany("degree", MOST_DEGREE)
    return composed(outer, inner)


def worth(poly, number):
    """What the polynomial comes to with the number in the place of x."""
    numbers = told(poly)
    return worth_at(numbers, ratio_of(number))


def divided(poly, other):
    """The quotient and the rest of the polynomial divided by the other one."""
    first, second = told(poly), told(other)
    if not second:
        raise NoughtPoly()
    return parted(first, second)
