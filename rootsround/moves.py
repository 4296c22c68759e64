"""Roots moved and scaled, and which roots are alike."""

from rootsround.errors import InvalidNumber
from rootsround.extracts import extracted
from rootsround.plain import composed, grown
from rootsround.ratios import Ratio, is_number, ratio_of
from rootsround.roots import Root, wanted_root


def wanted_factor(value):
    """The Ratio of a NUMBER that is not 0."""
    number = ratio_of(value)
    if number.sign == 0:
        raise InvalidNumber(value)
    return number


def with_line(poly, first, second):
    """The told polynomial with first x + second in the place of x, first not 0."""
    return composed(poly, [second, first])


def moved_root(root, first, second):
    """The Root of D with first x + second in the place of x."""
    poly = wanted_root(root).poly()
    factor, step = wanted_factor(first), ratio_of(second)
    return Root(with_line(poly, factor, step))


def scaled_root(root, number):
    """The Root of the number squared times D."""
    poly = wanted_root(root).poly()
    factor = wanted_factor(number)
    return Root(grown(poly, factor * factor))


def centre_of(poly):
    """The number with which, added to x, the told polynomial has no power just below its highest one."""
    last = len(poly) - 1
    return (-poly[last - 1]).over(poly[last] * last)


def first_numbers(ours, theirs):
    """Two Ratios or none, among them each first number by which roots are alike.

    Both polynomials are told and have no power just below their highest one.
    So theirs is ours with first x in the place of x, times a number: the
    highest two powers tell a power of the first number.
    """
    last = len(ours) - 1
    lower = [at for at in range(last) if ours[at].sign != 0]
    at = lower[-1]
    if theirs[at].sign == 0:
        return []
    worth = (theirs[last] * ours[at]).over(ours[last] * theirs[at])
    size = extracted(worth.size(), last - at)
    return [] if size is None else [size, -size]


def third_number(root, other, first):
    """The third number that the first one and both heads tell."""
    own, wanted = root.nearest()[-1], other.nearest()[-1]
    for _ in range(root.half):
        own = own * first.size()
    return wanted.over(own)


def is_reached(root, other, first, second, number):
    """Whether the other Root is the root moved by the first and the second number, then scaled by the number."""
    return grown(with_line(root.poly(), first, second), number * number) == other.poly()


def alike(root, other):
    """A tuple (first, second, number) by which the root is alike to the other one; None if there is none."""
    ours, theirs = wanted_root(root).poly(), wanted_root(other).poly()
    if root.degree != other.degree:
        return None
    own_middle, other_middle = centre_of(ours), centre_of(theirs)
    own_centred = with_line(ours, Ratio(1), own_middle)
    other_centred = with_line(theirs, Ratio(1), other_middle)
    for first in first_numbers(own_centred, other_centred):
        second = own_middle - first * other_middle
        number = third_number(root, other, first)
        if is_reached(root, other, first, second, number):
            return first, second, number
    return None


def is_alike(root, other, value):
    """Whether the value is a tuple of three NUMBERS by which the root is alike to the other one."""
    wanted_root(root)
    wanted_root(other)
    if not isinstance(value, tuple) or len(value) != 3 or not all([is_number(one) for one in value]):
        return False
    first, second, number = [ratio_of(one) for one in value]
    if first.sign == 0 or number.sign <= 0:
        return False
    return is_reached(root, other, first, second, number)
