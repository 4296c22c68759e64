"""rootsround.powers: powers of units, and the numbers that stand in a root."""

from fractions import Fraction
from math import isqrt
from unittest import mock

from rootsround.errors import InvalidMany, InvalidNumber, InvalidRoot, InvalidUnit, TooMany
from rootsround.polys import degree, divided, put_in, scaled
from rootsround.powers import power_unit, stands, with_number
from rootsround.ratios import Ratio
from rootsround.roots import Root
from rootsround.units import is_unit, unit_number
from tests.helpers import (NOT_INTEGERS, NOT_NUMBERS, NOT_ROOTS, Checks, Sub, frac, fracs, ratio, ratios, some_number,
                           source_of)
from tests.own import FAR_ROUND, own_least, own_norm, own_product, root_of, round_roots
from tests.test_units import NOT_UNITS, PLUS_ONE, UNIT, rooted_units

NOT_MANY = NOT_INTEGERS + [0, -1, 6, 7, 1000, Ratio(3), Ratio(1, 2), Sub(0), Sub(6)]


def is_square(number):
    """Whether the Fraction is a square of one."""
    top, bottom = number.numerator, number.denominator
    return top >= 0 and isqrt(top) ** 2 == top and isqrt(bottom) ** 2 == bottom


def leasts(rows):
    """Tuples (Root, least unit, its number) by Fractions."""
    found = []
    for root, many, _, _ in round_roots(tuple(rows)) if rows else round_roots():
        p, q, _, _ = own_least(root, many)
        found.append((root, (ratios(p), ratios(q)), own_norm(root, p, q)[0]))
    return found


class PowerTest(Checks):
    def test_against_fractions(self):
        for root, units in rooted_units(101, 12):
            for unit in units[:4]:
                wanted = unit
                for many in range(1, 6):
                    if many > 1:
                        wanted = own_product(root, wanted, unit)
                    if len(wanted[0]) > 61:
                        break
                    found = self.assert_pure(power_unit, root, unit, many)
                    self.assertIs(found.__class__, tuple)
                    self.assertEqual(found, (ratios(wanted[0]), ratios(wanted[1])))
                    for half in found:
                        self.assert_told(half)
                    self.assertEqual(degree(found[0]), many * degree(unit[0]))

    def test_with_the_number_1(self):
        tees = [[], [0, 1], [-1, 0, 2], [0, -3, 0, 4], [1, 0, -8, 0, 8], [0, 5, 0, -20, 0, 16]]
        units = [(PLUS_ONE, ([1, 0, 2], [0, 2])), (Root([0, -2, 0, 0, 1]), ([1, 0, 0, -1], [0, 1])),
                 (Root([1, 0, 0, 0, 0, 0, 0, 0, 1]), ([1, 0, 0, 0, 0, 0, 0, 0, 2], [0, 0, 0, 0, 2]))]
        for root, unit in units:
            self.assertEqual(unit_number(root, unit), Ratio(1))
            for many in range(1, 6):
                found = power_unit(root, unit, many)
                self.assertEqual(found[0], put_in(tees[many], unit[0]))
                self.assertEqual(unit_number(root, found), Ratio(1))

    def test_lesser_powers_divide(self):
        for root, units in [row for row in rooted_units(102, 7)[::2] if row[1]]:
            first, second = power_unit(root, units[0], 2)[1], power_unit(root, units[0], 4)[1]
            self.assertEqual(divided(second, first)[1], [])
            self.assertEqual(divided(power_unit(root, units[0], 3)[1], units[0][1])[1], [])

    def test_degrees_60_and_above(self):
        told_error = {"what": "degree", "limit": 60}
        root, pair = Root([-1, 0, 1]), ([0, 1], [1])
        powers = [None, pair]
        while len(powers) < 62:
            first, second = own_product(root, powers[-1], pair)
            powers.append((ratios(first), ratios(second)))
        for size, many in [(12, 5), (15, 4), (20, 3), (30, 2), (60, 1), (14, 4), (19, 3)]:
            self.assertEqual(power_unit(root, powers[size], many), powers[size * many])
        for size, many in [(13, 5), (16, 4), (21, 3), (31, 2), (60, 2), (60, 5)]:
            self.assert_error(TooMany, told_error, power_unit, root, powers[size], many)

    def test_bounds(self):
        for many in (1, 5, Sub(2)):
            self.assertEqual(degree(power_unit(PLUS_ONE, UNIT, many)[0]), many)
        self.assertEqual(power_unit(many=1, unit=((0, 3, 0), (3, 0)), root=PLUS_ONE),
                         ([Ratio(0), Ratio(3)], [Ratio(3)]))

    def test_wrong_parameters(self):
        good = {"root": PLUS_ONE, "unit": UNIT, "many": 2}
        self.assert_refuses(power_unit, good, "root", InvalidRoot, NOT_ROOTS)
        self.assert_refuses(power_unit, good, "unit", InvalidUnit, NOT_UNITS)
        self.assert_refuses(power_unit, good, "many", InvalidMany, NOT_MANY)
        self.assert_sequence(power_unit, [("root", 1, InvalidRoot), ("unit", 2, None), ("many", 9, None)])
        self.assert_error(InvalidUnit, {"value": 7}, power_unit, PLUS_ONE, 7, 8)


class StandsTest(Checks):
    def check_number(self, root, unit, number, own):
        """With the least unit's number, own: stands and with_number tell what a square tells."""
        worth = frac(number)
        once, twice = is_square(worth * own), is_square(worth)
        wanted = worth != 0 and (once or twice)
        self.assert_bool(stands(root, unit, number), wanted)
        if wanted and not once and 2 * degree(unit[0]) > 60:
            return
        found = self.assert_pure(with_number, root, unit, number)
        if not wanted:
            self.assertIsNone(found)
            return
        self.assertIs(found.__class__, tuple)
        for half in found:
            self.assert_told(half)
        self.assertEqual(own_norm(root, *found), [worth])
        self.assert_bool(is_unit(root, found), True)

    def test_squares_and_others(self):
        source = source_of(103)
        for root, unit, own in leasts([]):
            units = [unit, (scaled(unit[0], 3), scaled(unit[1], -3))]
            if degree(unit[0]) <= 8:
                first, second = own_product(root, unit, unit)
                units.append((ratios(first), ratios(second)))
            numbers = [1, 4, -1, 2, 0, Ratio(9, 4), Ratio(0), ratio(own), ratio(1 / own), ratio(-own), ratio(2 * own),
                       ratio(own * Fraction(49, 25)), ratio(own * own), -9, Ratio(-1, 4), 6]
            numbers.append(some_number(source))
            for some_unit in units:
                for number in numbers:
                    self.check_number(root, some_unit, number, own)

    def test_units_of_even_and_odd_places(self):
        square = ([1, 0, 2], [0, 2])
        for unit in [UNIT, square, ([1, 0, 2], [0, -2]), power_unit(PLUS_ONE, UNIT, 3), power_unit(PLUS_ONE, UNIT, 4)]:
            for number, wanted in [(1, True), (-1, True), (4, True), (-9, True), (2, False), (-2, False), (0, False),
                                   (Ratio(-4, 25), True), (Ratio(1, 3), False)]:
                self.assert_bool(stands(PLUS_ONE, unit, number), wanted)
                self.assertEqual(with_number(PLUS_ONE, unit, number) is not None, wanted)

    def test_a_square_stands_at_the_double_degree(self):
        root = Root([-3, 0, 1])
        self.assertEqual(unit_number(root, UNIT), Ratio(3))
        self.assert_bool(stands(root, UNIT, 1), True)
        found = with_number(root, UNIT, 1)
        self.assertEqual((degree(found[0]), unit_number(root, found)), (2, Ratio(1)))
        self.assertEqual(degree(with_number(root, UNIT, 12)[0]), 1)

    def test_roots_of_great_degrees(self):
        for root, unit, own in leasts(FAR_ROUND):
            for number in (1, 4, Ratio(9, 25)):
                self.assert_bool(stands(root, unit, number), True)
                self.check_number(root, unit, number, own)
            for number in (2, 5, -7, ratio(own * 4), ratio(-own)):
                self.check_number(root, unit, number, own)

    def test_a_square_that_stands_above_60_alone(self):
        root = root_of("1/4 -1 9/2 0 -7/4 1 1")
        p, q, _, _ = own_least(root, 39)
        unit, own = (ratios(p), ratios(q)), own_norm(root, p, q)[0]
        self.assertEqual((len(p) - 1, is_square(own), is_square(-3 * own)), (39, False, True))
        for number in (1, 9, Ratio(4, 25)):
            self.assert_bool(stands(root, unit, number), True)
            self.assert_error(TooMany, {"what": "degree", "limit": 60}, with_number, root, unit, number)
        for number, wanted in [(-3, True), (Ratio(-12, 25), True), (3, False), (-1, False), (0, False)]:
            self.assert_bool(stands(root, unit, number), wanted)
            self.assertEqual(with_number(root, unit, number) is not None, wanted)
        self.assertEqual(own_norm(root, *with_number(root, unit, -3)), [-3])

    def test_the_limit_itself(self):
        root = Root([-3, 0, 1])
        with mock.patch("rootsround.powers.MOST_DEGREE", 2):
            self.assertEqual(degree(with_number(root, UNIT, 1)[0]), 2)
        with mock.patch("rootsround.powers.MOST_DEGREE", 1):
            self.assert_error(TooMany, {"what": "degree", "limit": 1}, with_number, root, UNIT, 1)
            self.assertEqual(degree(with_number(root, UNIT, 3)[0]), 1)
            self.assertIsNone(with_number(root, UNIT, 2))

    def test_great_numbers(self):
        side = 10 ** 40 + 3
        self.assert_bool(stands(PLUS_ONE, UNIT, Ratio(-side) * side), True)
        self.assert_bool(stands(PLUS_ONE, UNIT, Ratio(side) * side + 1), False)
        found = with_number(PLUS_ONE, UNIT, Ratio(side) * side)
        self.assertEqual(unit_number(PLUS_ONE, found), Ratio(side) * side)
        self.assertEqual(fracs(found[0])[-1] ** 2, fracs(found[1])[-1] ** 2)

    def test_by_name(self):
        self.assert_bool(stands(number=4, unit=((0, 1), (1,)), root=PLUS_ONE), True)
        self.assertIsNone(with_number(number=0, root=PLUS_ONE, unit=UNIT))

    def test_wrong_parameters(self):
        good = {"root": PLUS_ONE, "unit": UNIT, "number": 4}
        for function in (stands, with_number):
            self.assert_refuses(function, good, "root", InvalidRoot, NOT_ROOTS)
            self.assert_refuses(function, good, "unit", InvalidUnit, NOT_UNITS)
            self.assert_refuses(function, good, "number", InvalidNumber, NOT_NUMBERS)
            self.assert_sequence(function, [("root", 1, InvalidRoot), ("unit", 2, None), ("number", "x", None)])
            self.assert_error(InvalidUnit, {"value": 7}, function, PLUS_ONE, 7, None)
