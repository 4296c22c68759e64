"""Roots with a polynomial put in, and some Roots that are told."""

from rootsround.basics import wanted_many
from rootsround.errors import NumberAlone, TooMany
from rootsround.makes import square_taken_out
from rootsround.plain import composed, multiplied
from rootsround.polys import MOST_DEGREE, told
from rootsround.roots import Root, wanted_root
from rootsround.units import wanted_unit

# D of the told Roots, by the degrees of their least units
TOLD = {2: (1, 0, 0, 0, 1), 3: (0, -2, 0, 0, 1), 4: (-10, 16, 5, -6, 1), 5: (-1, -2, 5, 4, 4)}


def wanted_inner(poly, outer):
    """The told polynomial, not a number alone, which is to be put into one of the outer degree."""
    numbers = told(poly)
    if len(numbers) < 2:
        raise NumberAlone()
    if outer * (len(numbers) - 1) > MOST_DEGREE:
        raise TooMany("degree", MOST_DEGREE)
    return numbers


def put_root(root, poly):
    """The tuple of the Root of D' and of g: D with the polynomial put in is D' g g."""
    wanted_root(root)
    numbers = wanted_inner(poly, root.degree)
    return square_taken_out(composed(root.poly(), numbers), numbers)


def unit_put(root, unit, poly):
    """The unit of the Root of D' that the unit of D becomes with the polynomial put in."""
    first, second = wanted_unit(root, unit)
    numbers = wanted_inner(poly, max(root.degree, len(first) - 1))
    _, part = square_taken_out(composed(root.poly(), numbers), numbers)
    return composed(first, numbers), multiplied(composed(second, numbers), part)


def told_root(many):
    """The Root of degree 4 that is told for this degree of its least unit, from 2 to 5."""
    return Root(TOLD[wanted_many(many, 2, 5)])
