"""Roots that are made of pairs of polynomials, with their units."""

from rootsround.errors import NotApart, NoughtPoly
from rootsround.makes import checked_size, root_within
from rootsround.parts import common_part, greatest_square, shares
from rootsround.plain import grown, lessened, multiplied, parted, quotient_of
from rootsround.polys import told
from rootsround.ratios import Ratio

MOST_DEGREE = 12


def lines_of(first, second):
    """The tuple (v, u) with v h h - u g g = 2, v of a degree below that of g g."""
    squares = multiplied(first, first), multiplied(second, second)
    share, _ = shares(squares[1], squares[0])
    _, upper = parted(grown(share, Ratio(2)), squares[0])
    left = lessened(multiplied(upper, squares[1]), [Ratio(2)])
    return upper, quotient_of(left, squares[0])


def made_pair(first, second):
    """The tuple of the Root of u v without its square part, and its unit with v h h - 1 and the number 1."""
    one, other = told(first), told(second)
    if not one or not other:
        raise NoughtPoly()
    least, size = min(len(one), len(other)) - 1, len(one) + len(other) - 2
    checked_size(size if least > 0 else 0, MOST_DEGREE)
    if len(common_part(one, other)) > 1:
        raise NotApart()
    upper, lower = lines_of(one, other)
    # v and u have nothing in common, so each has its own square part
    part = multiplied(greatest_square(upper), greatest_square(lower))
    root = root_within(multiplied(upper, lower), part)
    lead = lessened(multiplied(upper, multiplied(other, other)), [Ratio(1)])
    return root, (lead, multiplied(multiplied(one, other), part))
