"""Log polynomials of units."""

from rootsround.plain import quotient_of, slope
from rootsround.units import wanted_unit
from rootsround.verdicts import round_unit


def log_of(pair):
    """The log polynomial of a unit, both halves told."""
    return quotient_of(slope(pair[0]), pair[1])


def log_poly(root):
    """The log polynomial of the root's least unit; None if the root is not round."""
    pair = round_unit(root)
    return None if pair is None else log_of(pair)


def log_head(root, unit):
    """The log polynomial of the unit."""
    return log_of(wanted_unit(root, unit))
