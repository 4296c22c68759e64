"""What polynomials sum up to, and what is left of others."""

from rootsround.errors import TooMany
from rootsround.plain import added, grown, lessened, multiplied, slope
from rootsround.polys import told
from rootsround.ratios import Ratio
from rootsround.roots import wanted_root

MOST_DEGREE = 30


def checked_degrees(polys):
    """Raises TooMany if one of the told polynomials has a degree above 30."""
    for poly in polys:
        if len(poly) - 1 > MOST_DEGREE:
            raise TooMany("degree", MOST_DEGREE)


def sum_up(root, poly):
    """What the told polynomial sums up to."""
    body = root.poly()
    return added(multiplied(slope(poly), body), grown(multiplied(poly, slope(body)), Ratio(1, 2)))


def parted_off(root, poly):
    """The tuple (S, what is left) of a told polynomial."""
    head = root.poly()[-1]
    left, taken = poly, []
    while len(left) >= root.degree:
        place = len(left) - root.degree
        number = left[-1].over(head * (root.half + place))
        piece = [Ratio(0)] * place + [number]
        taken = added(taken, piece)
        left = lessened(left, sum_up(root, piece))
    return taken, left


def taken_off(root, poly):
    """The tuple of S and what is left: the polynomial is what S sums up to, and what is left added."""
    wanted_root(root)
    numbers = told(poly)
    checked_degrees([numbers])
    return parted_off(root, numbers)


def summed_up(root, first, second):
    """What the first polynomial sums up to, and the second one added."""
    wanted_root(root)
    polys = [told(first), told(second)]
    checked_degrees(polys)
    return added(sum_up(root, polys[0]), polys[1])
