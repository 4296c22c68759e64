"""Told polynomials, reckoned without looking at what is passed and without limits of degrees.

All functions take told polynomials (lists of Ratios without a nought at the
end) and return new ones.
"""

from math import lcm

from rootsround.ratios import Ratio
from rootsround.wholes import parted_wholes, primitive, product_of, top_at


def trimmed(numbers):
    """The list of Ratios without the noughts at its end."""
    many = len(numbers)
    while many > 0 and numbers[many - 1].sign == 0:
        many -= 1
    return numbers[:many]


def cleared(poly):
    """A tuple (tops, bottom) of the polynomial's numbers over their least common bottom."""
    bottom = 1
    for number in poly:
        bottom = lcm(bottom, number.bottom)
    return [number.top * (bottom // number.bottom) for number in poly], bottom


def restored(tops, bottom):
    """The told polynomial of whole numbers over a bottom."""
    return trimmed([Ratio(top, bottom) for top in tops])


def bare(poly):
    """The whole numbers without a common divisor that are a number times a polynomial, not nought."""
    tops, _ = cleared(poly)
    return primitive(tops)


def added(first, second):
    """The sum of two polynomials."""
    longer, shorter = (first, second) if len(first) >= len(second) else (second, first)
    both = [number + other for number, other in zip(longer, shorter)]
    return trimmed(both + longer[len(shorter):])


def negative(poly):
    """The polynomial with its sign turned."""
    return [-number for number in poly]


def lessened(first, second):
    """The first polynomial less the second one."""
    return added(first, negative(second))


def grown(poly, number):
    """The polynomial times a number."""
    return trimmed([own * number for own in poly])


def multiplied(first, second):
    """The product of two polynomials."""
    upper, upper_bottom = cleared(first)
    lower, lower_bottom = cleared(second)
    return restored(product_of(upper, lower), upper_bottom * lower_bottom)


def slope(poly):
    """The polynomial derived."""
    return [poly[at] * at for at in range(1, len(poly))]


def parted(first, second):
    """The quotient and the rest of the first polynomial divided by the second one, not nought."""
    upper, upper_bottom = cleared(first)
    lower, lower_bottom = cleared(second)
    factor, quotient, rest = parted_wholes(upper, lower)
    scaled_quotient = [number * lower_bottom for number in quotient]
    return restored(scaled_quotient, factor * upper_bottom), restored(rest, factor * upper_bottom)


def quotient_of(poly, divisor):
    """The quotient of two told polynomials, the divisor not nought."""
    quotient, _ = parted(poly, divisor)
    return quotient


def is_multiple(poly, divisor):
    """Whether the divisor, not nought, divides the polynomial, both told."""
    _, rest = parted(poly, divisor)
    return not rest


def worth_at(poly, number):
    """What the polynomial comes to with the Ratio in the place of x."""
    tops, bottom = cleared(poly)
    scale = 1
    for _ in range(len(tops) - 1):
        scale = scale * number.bottom
    return Ratio(top_at(tops, number.top, number.bottom), bottom * scale)


def composed(poly, inner):
    """The polynomial with the inner one in the place of x."""
    result = []
    for number in poly[::-1]:
        result = added(multiplied(result, inner), trimmed([number]))
    return result


def monic(poly):
    """The polynomial divided by its head; nought stays nought."""
    return [number.over(poly[-1]) for number in poly]
