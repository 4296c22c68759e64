"""What polynomials have in common, and the squares in them."""

from rootsround.errors import NoughtPoly
from rootsround.plain import (
    added, bare, grown, is_multiple, lessened, monic, multiplied, quotient_of, restored, slope)
from rootsround.polys import is_poly, told
from rootsround.ratios import Ratio
from rootsround.wholes import are_apart, last_rest


def common_part(first, second):
    """The common part of two told polynomials."""
    if not first or not second:
        return monic(first + second)
    upper, lower = bare(first), bare(second)
    if are_apart(upper, lower):
        return [Ratio(1)]
    if len(upper) < len(lower):
        upper, lower = lower, upper
    last, _ = last_rest(upper, lower, [], [])
    return restored(last, last[-1])


def shares_of(upper, lower):
    """Shares of two told polynomials, the upper one of at least the degree of the lower one."""
    if not upper:
        return [], []
    if not lower:
        return [Ratio(1).over(upper[-1])], []
    tops = bare(upper)
    last, share = last_rest(tops, bare(lower), [1], [])
    shared = restored(last, last[-1])
    first = grown(restored(share, last[-1]), Ratio(tops[-1]).over(upper[-1]))
    second = quotient_of(lessened(shared, multiplied(first, upper)), lower)
    return first, second


def square_free(poly):
    """The told polynomial, not nought, divided by its common part with it derived."""
    return quotient_of(poly, common_part(poly, slope(poly)))


def square_met(poly, repeated):
    """The greatest square part of a told polynomial that is not nought; told its common part with it derived."""
    single = quotient_of(poly, repeated)
    result = [Ratio(1)]
    times_met = 1
    # what is in the polynomial so often stands in single, the higher powers in repeated
    while len(repeated) > 1:
        single = common_part(single, repeated)
        repeated = quotient_of(repeated, single)
        times_met += 1
        if times_met % 2 == 0:
            result = multiplied(result, single)
    return result


def greatest_square(poly):
    """The greatest square part of a told polynomial that is not nought."""
    return square_met(poly, common_part(poly, slope(poly)))


def told_not_nought(poly):
    """The told polynomial, which is not nought."""
    numbers = told(poly)
    if not numbers:
        raise NoughtPoly()
    return numbers


def common(poly, other):
    """The polynomial of the greatest degree that divides both, its head 1; nought of two noughts."""
    first, second = told(poly), told(other)
    return common_part(first, second)


def shares(poly, other):
    """Two polynomials by which poly and other, multiplied and added, come to their common part."""
    first, second = told(poly), told(other)
    if len(first) >= len(second):
        return shares_of(first, second)
    other_share, own_share = shares_of(second, first)
    return own_share, other_share


def is_shares(poly, other, value):
    """Whether the value is a tuple of two polynomials that are shares of both."""
    first, second = told(poly), told(other)
    if not isinstance(value, tuple) or len(value) != 2:
        return False
    if not is_poly(value[0]) or not is_poly(value[1]):
        return False
    reached = added(multiplied(told(value[0]), first), multiplied(told(value[1]), second))
    if not reached:
        return not first and not second
    # what is reached is a multiple of the common part, so it is this one if it divides both
    return reached[-1] == Ratio(1) and is_multiple(first, reached) and is_multiple(second, reached)


def square_part(poly):
    """The polynomial with the head 1 of the greatest degree whose square divides it."""
    return greatest_square(told_not_nought(poly))


def odd_part(poly):
    """The polynomial divided by the square of its greatest square part."""
    numbers = told_not_nought(poly)
    part = greatest_square(numbers)
    return quotient_of(numbers, multiplied(part, part))


def has_square(poly):
    """Whether the square of a polynomial of degree 1 or more divides it."""
    numbers = told_not_nought(poly)
    return len(common_part(numbers, slope(numbers))) > 1
