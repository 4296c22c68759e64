"""Roots that are made of polynomials, with their units."""

from rootsround.errors import NoughtPoly, NumberAlone, TooMany
from rootsround.moves import wanted_factor
from rootsround.parts import common_part, greatest_square, square_met
from rootsround.plain import lessened, multiplied, quotient_of, slope
from rootsround.polys import told
from rootsround.ratios import Ratio
from rootsround.roots import Root

MOST_DEGREE = 24


def checked_size(size, most):
    """Raises NumberAlone for the degree 0 and less, TooMany for one above the greatest."""
    if size < 1:
        raise NumberAlone()
    if size > most:
        raise TooMany("degree", most)


def root_within(poly, part):
    """The Root of the told polynomial, its head a square, without its greatest square part."""
    return Root(quotient_of(poly, multiplied(part, part)))


def square_taken_out(poly, inner):
    """The tuple of the Root of D and of g, the told polynomial, its head a square, being D g g.

    It is a polynomial without a square part, with the inner one put in: so
    its common part with it derived is that with the inner one derived.
    """
    part = square_met(poly, common_part(poly, slope(inner)))
    return root_within(poly, part), part


def made_by(poly, number):
    """The tuple of the Root of D and of q: the polynomial squared less the number is D q q."""
    numbers, wanted = told(poly), wanted_factor(number)
    checked_size(len(numbers) - 1, MOST_DEGREE)
    return square_taken_out(lessened(multiplied(numbers, numbers), [wanted]), numbers)


def line_root(first, second):
    """The tuple of the Root of v (v h h - 2) without its square part, and its unit with v h h - 1 and the number 1."""
    line, other = told(first), told(second)
    if not line or not other:
        raise NoughtPoly()
    checked_size(len(line) + 2 * len(other) - 3, MOST_DEGREE)
    product = multiplied(line, multiplied(other, other))
    left = lessened(product, [Ratio(2)])
    # v and v h h - 2 have nothing in common, so each has its own square part
    part = multiplied(greatest_square(line), greatest_square(left))
    root = root_within(multiplied(line, left), part)
    return root, (lessened(product, [Ratio(1)]), multiplied(other, part))
