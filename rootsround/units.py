"""Units of a root."""

from rootsround.errors import InvalidUnit, TooMany
from rootsround.plain import added, multiplied, negative
from rootsround.polys import MOST_DEGREE, is_poly, told
from rootsround.roots import wanted_root
from rootsround.walks import half_walk, norm_of, unit_of


def number_of(root, pair):
    """The number of a unit, both halves told."""
    return norm_of(root, pair[0], pair[1])[0]


def is_unit(root, value):
    """Whether the value is a unit of the root."""
    wanted_root(root)
    if not isinstance(value, tuple) or len(value) != 2 or not is_poly(value[0]) or not is_poly(value[1]):
        return False
    first, second = told(value[0]), told(value[1])
    if not second or len(first) != len(second) + root.half:
        return False
    return len(norm_of(root, first, second)) == 1


def wanted_unit(root, value):
    """Both halves, told, of the value, which is a unit of the root."""
    if not is_unit(root, value):
        raise InvalidUnit(value)
    return told(value[0]), told(value[1])


def least_behind(root, pair):
    """The least unit of a root that has this unit, both halves told."""
    wholes, _ = half_walk(root, len(pair[0]) - 1)
    return unit_of(wholes)


def unit_number(root, unit):
    """The number of the unit."""
    return number_of(root, wanted_unit(root, unit))


def contrary(root, unit):
    """The unit with the sign of its second half turned."""
    first, second = wanted_unit(root, unit)
    return first, negative(second)


def product_of_pairs(poly, pair, other):
    """The tuple of p p' + D q q' and p q' + q p' of two tuples (p, q) of told polynomials."""
    crossed = added(multiplied(pair[0], other[1]), multiplied(pair[1], other[0]))
    squared = multiplied(poly, multiplied(pair[1], other[1]))
    return added(multiplied(pair[0], other[0]), squared), crossed


def times_unit(root, unit, other_unit):
    """The product of two units, a tuple of two told polynomials."""
    pair, other = wanted_unit(root, unit), wanted_unit(root, other_unit)
    if len(pair[0]) + len(other[0]) - 2 > MOST_DEGREE:
        raise TooMany("degree", MOST_DEGREE)
    return product_of_pairs(root.poly(), pair, other)
