"""Powers of units, and which numbers stand in a root."""

from rootsround.basics import wanted_many
from rootsround.errors import TooMany
from rootsround.extracts import extracted
from rootsround.plain import grown
from rootsround.polys import MOST_DEGREE
from rootsround.ratios import ratio_of
from rootsround.units import least_behind, number_of, product_of_pairs, wanted_unit

MOST_TAKEN = 5


def power_unit(root, unit, many):
    """The unit taken many times."""
    pair = wanted_unit(root, unit)
    wanted_many(many, 1, MOST_TAKEN)
    if many * (len(pair[0]) - 1) > MOST_DEGREE:
        raise TooMany("degree", MOST_DEGREE)
    result = pair
    for _ in range(many - 1):
        result = product_of_pairs(root.poly(), result, pair)
    return result


def stands(root, unit, number):
    """Whether some unit of the root has this number."""
    pair, wanted = wanted_unit(root, unit), ratio_of(number)
    if wanted.sign == 0:
        return False
    own = number_of(root, least_behind(root, pair))
    return extracted(wanted, 2) is not None or extracted(wanted * own, 2) is not None


def times_number(pair, number):
    """Both halves of a unit times the number."""
    return grown(pair[0], number), grown(pair[1], number)


def with_number(root, unit, number):
    """A unit of the root with this number; None if there is none."""
    pair, wanted = wanted_unit(root, unit), ratio_of(number)
    if wanted.sign == 0:
        return None
    least = least_behind(root, pair)
    own = number_of(root, least)
    # the wanted number is the least unit's times a square just if both multiplied are a square
    crossed = extracted(wanted * own, 2)
    if crossed is not None:
        return times_number(least, crossed.over(own.size()))
    side = extracted(wanted, 2)
    if side is None:
        return None
    if 2 * (len(least[0]) - 1) > MOST_DEGREE:
        raise TooMany("degree", MOST_DEGREE)
    # taken twice, the least unit has its number squared
    return times_number(product_of_pairs(root.poly(), least, least), side.over(own.size()))
