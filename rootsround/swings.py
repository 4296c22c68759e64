"""How the halves of units go to and fro on the stretches of all real roots."""

from rootsround.plain import bare, worth_at
from rootsround.ratios import ratio_of
from rootsround.reals import between, checked_real
from rootsround.signs import count_within
from rootsround.units import number_of, wanted_unit


def counts_on(root, poly):
    """How many roots of half a unit lie on each stretch of its all real Root.

    All of them lie on stretches, so those between two neighbouring gaps are
    those on the stretch there. They are unlike: the half has no square part.
    """
    posts, numbers = between(root), bare(poly)
    return [count_within(numbers, posts[2 * at], posts[2 * at + 2]) for at in range(root.half)]


def swings(root, unit):
    """How many roots of the unit's first half lie on each stretch, from below."""
    first, _ = wanted_unit(root, unit)
    return counts_on(root, first)


def inner_counts(root, unit):
    """How many roots of the unit's second half lie on each stretch, from below."""
    _, second = wanted_unit(root, unit)
    return counts_on(root, second)


def turns(root, unit, number):
    """The sign of p at the number, and -1, 0 or 1 as p p is below the unit's number there, just it, or above."""
    pair, place = wanted_unit(root, unit), ratio_of(number)
    checked_real(root)
    reached = worth_at(pair[0], place)
    return reached.sign, (reached * reached - number_of(root, pair)).sign
