"""What the deeds of a desk make of what it keeps: polynomials, Roots, and units, each with its Root.

A unit is kept as a tuple of its Root and the tuple of its halves.
"""

from rootsround.errors import InvalidPlace, InvalidUnit, NeverRound
from rootsround.inner import put_root, told_root
from rootsround.logs import log_head
from rootsround.makes import line_root, made_by
from rootsround.moves import moved_root, scaled_root
from rootsround.parts import common, odd_part
from rootsround.plain import trimmed
from rootsround.polys import derived, divided, minus, plus, put_in, scaled, times, told
from rootsround.powers import power_unit
from rootsround.ratios import Ratio
from rootsround.roots import Root
from rootsround.taken import taken_off
from rootsround.units import contrary, is_unit
from rootsround.verdicts import round_unit

MOST_PLACE = 24


def of_numbers(numbers):
    return told(numbers)


def of_sum(poly, other):
    return plus(poly, other)


def of_difference(poly, other):
    return minus(poly, other)


def of_product(poly, other):
    return times(poly, other)


def of_inner(poly, other):
    return put_in(poly, other)


def of_quotient(poly, other):
    quotient, _ = divided(poly, other)
    return quotient


def of_rest(poly, other):
    _, rest = divided(poly, other)
    return rest


def of_common(poly, other):
    return common(poly, other)


def of_slope(poly):
    return derived(poly)


def of_odd(poly):
    return odd_part(poly)


def of_scaled(poly, number):
    return scaled(poly, number)


def of_root(poly):
    return Root(poly)


def of_told(many):
    return told_root(many)


def of_moved(root, first, second):
    return moved_root(root, first, second)


def of_grown(root, number):
    return scaled_root(root, number)


def of_made(poly, number):
    root, _ = made_by(poly, number)
    return root


def of_line(poly, other):
    root, _ = line_root(poly, other)
    return root


def of_put(root, poly):
    made, _ = put_root(root, poly)
    return made


def of_inside(root):
    return root.poly()


def of_nearest(root):
    return root.nearest()


def of_left(root, poly):
    _, left = taken_off(root, poly)
    return left


def of_unit(root, poly, other):
    if not is_unit(root, (poly, other)):
        raise InvalidUnit((list(poly), list(other)))
    return root, (poly, other)


def of_least(root):
    pair = round_unit(root)
    if pair is None:
        raise NeverRound()
    return root, pair


def of_power(unit, many):
    root, pair = unit
    return root, power_unit(root, pair, many)


def of_contrary(unit):
    root, pair = unit
    return root, contrary(root, pair)


def of_first(unit):
    _, pair = unit
    return pair[0]


def of_second(unit):
    _, pair = unit
    return pair[1]


def of_log(unit):
    root, pair = unit
    return log_head(root, pair)


MAKERS = {
    "poly": of_numbers, "sum": of_sum, "less": of_difference, "times": of_product, "into": of_inner,
    "quotient": of_quotient, "rest": of_rest, "common": of_common, "derived": of_slope, "odd": of_odd,
    "scaled": of_scaled, "root": of_root, "told": of_told, "moved": of_moved, "grown": of_grown, "made": of_made,
    "line": of_line, "put": of_put, "inside": of_inside, "nearest": of_nearest, "left": of_left, "unit": of_unit,
    "least": of_least, "power": of_power, "contrary": of_contrary, "first": of_first, "second": of_second,
    "logof": of_log}


def made_thing(word, values):
    """What the deed of this first word makes of the values behind its new name."""
    maker = MAKERS[word]
    return maker(*values)


def with_amount(poly, place, number):
    """The told polynomial with the number at the power that the place tells."""
    if place > MOST_PLACE:
        raise InvalidPlace(place)
    numbers = poly + [Ratio(0)] * (place + 1 - len(poly))
    numbers[place] = number
    return trimmed(numbers)
