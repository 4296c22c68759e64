"""Integrals of polynomials over roots, and reasons why there is none."""

from rootsround.basics import is_integer
from rootsround.logs import log_of
from rootsround.plain import added, grown
from rootsround.polys import is_poly, told
from rootsround.ratios import Ratio, is_number, ratio_of
from rootsround.roots import wanted_root
from rootsround.taken import checked_degrees, parted_off, sum_up
from rootsround.units import is_unit, wanted_unit
from rootsround.verdicts import is_never_paper, never_paper, round_unit


def wanted_parts(root, poly):
    """The told polynomial, of a degree of at most 30, as the tuple (S, what is left)."""
    wanted_root(root)
    numbers = told(poly)
    checked_degrees([numbers])
    return parted_off(root, numbers)


def uneven_place(left, logs):
    """The first position at which what is left is not the same number times the log polynomial; None if none is."""
    factor = left[-1].over(logs[-1])
    for at in range(len(left)):
        if left[at] != logs[at] * factor:
            return at
    return None


def integral(root, poly):
    """A tuple (S, number, unit), an integral of the polynomial over the root; None if there is none."""
    taken, left = wanted_parts(root, poly)
    if not left:
        return taken, Ratio(0), None
    if len(left) != root.half:
        return None
    pair = round_unit(root)
    if pair is None:
        return None
    logs = log_of(pair)
    if uneven_place(left, logs) is not None:
        return None
    return taken, left[-1].over(logs[-1]), pair


def why_none(root, poly):
    """A reason why the polynomial over the root has no integral; None if it has one."""
    _, left = wanted_parts(root, poly)
    if not left:
        return None
    if len(left) > root.half:
        return "degree", len(left) - 1
    if len(left) < root.half:
        return "low", len(left) - 1
    pair = round_unit(root)
    if pair is None:
        return "never", never_paper(root)
    place = uneven_place(left, log_of(pair))
    return None if place is None else ("uneven", place)


def is_integral(root, poly, value):
    """Whether the value is an integral of the polynomial over the root."""
    wanted_root(root)
    numbers = told(poly)
    checked_degrees([numbers])
    if not isinstance(value, tuple) or len(value) != 3 or not is_poly(value[0]) or not is_number(value[1]):
        return False
    reached, factor = sum_up(root, told(value[0])), ratio_of(value[1])
    if factor.sign == 0:
        return value[2] is None and reached == numbers
    if not is_unit(root, value[2]):
        return False
    return added(reached, grown(log_of(wanted_unit(root, value[2])), factor)) == numbers


def is_uneven(root, left, place):
    """Whether the number at the place shows that what is left is no number times the root's log polynomial."""
    if len(left) != root.half or not is_integer(place) or place < 0 or place > root.half - 2:
        return False
    pair = round_unit(root)
    if pair is None:
        return False
    logs = log_of(pair)
    return left[place] != logs[place] * left[-1].over(logs[-1])


def is_why(root, poly, value):
    """Whether the value is a reason why the polynomial over the root has no integral."""
    _, left = wanted_parts(root, poly)
    if not isinstance(value, tuple) or len(value) != 2 or not isinstance(value[0], str) or not left:
        return False
    word, told_reason = value
    if word == "never":
        return is_never_paper(root, told_reason)
    if word == "uneven":
        return is_uneven(root, left, told_reason)
    if not is_integer(told_reason) or told_reason != len(left) - 1:
        return False
    return (word == "degree" and told_reason >= root.half) or (word == "low" and told_reason <= root.half - 2)
