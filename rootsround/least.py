"""The least unit of a root, and the place of each unit behind it."""

from rootsround.basics import wanted_many
from rootsround.ratios import Ratio
from rootsround.roots import wanted_root
from rootsround.units import least_behind, number_of, wanted_unit
from rootsround.walks import half_walk, unit_of

MOST_DEGREE = 12


def walk_to(root, most):
    """The half walk to a part of a degree of at most most, which is a COUNT to 12."""
    wanted_root(root)
    return half_walk(root, wanted_many(most, 0, MOST_DEGREE))


def least_unit(root, most):
    """The least unit, if its degree is at most most; None otherwise."""
    walk = walk_to(root, most)
    return None if walk is None else unit_of(walk[0])


def half_round(root, most):
    """Behind how many steps the chain is half round, and with which number, if the degree is at most most."""
    walk = walk_to(root, most)
    return None if walk is None else (len(walk[0]), walk[1])


def whole_round(root, most):
    """Behind how many steps the chain comes whole round, if the least unit's degree is at most most."""
    walk = walk_to(root, most)
    if walk is None:
        return None
    wholes, number = walk
    return len(wholes) if number == Ratio(1) else 2 * len(wholes)


def is_least(root, unit):
    """Whether no unit of the root has a lesser degree."""
    pair = wanted_unit(root, unit)
    return len(least_behind(root, pair)[0]) == len(pair[0])


def head_of_power(root, many):
    """The head of the first half of the least unit, taken many times."""
    # the next power's first half adds two products, both with the head of this one times that of the least one
    head = root.nearest()[-1]
    result = head
    for _ in range(many - 1):
        result = result * head * 2
    return result


def place_of(root, unit):
    """The tuple (number, power) of a unit: it is the number times this power of the least unit."""
    first, second = wanted_unit(root, unit)
    least = least_behind(root, (first, second))
    many = (len(first) - 1) // (len(least[0]) - 1)
    number = first[-1].over(head_of_power(root, many))
    if first[-1].sign == second[-1].sign:
        return number, many
    own = number_of(root, least)
    for _ in range(many):
        number = number * own
    return number, -many
