"""rootsround.sweeps: polynomials that sweep a root, and numbers at which others go beyond."""

from fractions import Fraction

from rootsround.errors import (
    InvalidNumber, InvalidPoly, InvalidRoot, InvalidUnit, NotReal, TooMany, UnlikeHeads)
from rootsround.moves import moved_root
from rootsround.polys import put_in
from rootsround.powers import power_unit
from rootsround.ratios import Ratio
from rootsround.roots import Root
from rootsround.signs import fences
from rootsround.sweeps import greater, is_greater, is_sweep
from tests.helpers import (
    NOT_NUMBERS, NOT_POLYS, NOT_ROOTS, Checks, Sub, frac, frac_plus, frac_times, frac_worth, fracs, ratio, ratios,
    some_poly, source_of)
from tests.own import frac_divided, root_of
from tests.real import NOT_REAL, REAL_ALONE, own_made, real_units, samples, with_powers
from tests.test_signs import digits
from tests.test_swings import HALF_REAL, HALF_UNIT, NEVER_REAL, NEVER_UNIT, NOT_SWEPT_UNITS

SWEPT, UNIT = Root([0, -2, 9, -6, 1]), ([-1, 9, -6, 1], [-3, 1])
PLUS_NUMBER = Root([-1, 0, 1])


def own_side(poly):
    """The Fractions' polynomial with that one for its square; None if there is none."""
    if len(poly) % 2 == 0 or poly[-1] < 0:
        return None
    for bottom in range(1, 60):
        head = poly[-1] * bottom * bottom
        if head.denominator == 1 and round(int(head) ** 0.5) ** 2 == head:
            break
    else:
        return None
    side = [Fraction(0)] * (len(poly) // 2) + [Fraction(round(int(head) ** 0.5), bottom)]
    for at in range(len(side) - 2, -1, -1):
        place = at + len(side) - 1
        squared = frac_times(side, side)
        side[at] = (poly[place] - (squared[place] if place < len(squared) else 0)) / (2 * side[-1])
    return side if frac_times(side, side) == poly else None


def own_sweep(root, poly, number):
    """Whether poly poly - number is D q q, by Fractions' dividing and the side of the quotient."""
    if number <= 0:
        return False
    left = frac_plus(frac_times(fracs(poly), fracs(poly)), [-number])
    quotient, rest = frac_divided(left, fracs(root.poly()))
    return rest == [] and fracs(ratios(quotient)) != [] and own_side(fracs(ratios(quotient))) is not None


class SweepTest(Checks):
    def test_first_halves_of_units_sweep(self):
        for root, unit, number, _, _ in with_powers():
            self.assertTrue(own_sweep(root, unit[0], number))
            self.assert_bool(self.assert_pure(is_sweep, root, unit[0], ratio(number)), True)
            negative = tuple(-one for one in unit[0]) + (0, Ratio(0))
            self.assert_bool(is_sweep(number=ratio(number), poly=negative, root=root), True)
            doubled = [one * Ratio(-2, 3) for one in unit[0]]
            self.assert_bool(is_sweep(root, doubled, ratio(number * Fraction(4, 9))), True)

    def test_the_number_otherwise(self):
        for root, unit, number, _, _ in with_powers(8, 3):
            for other in [number + 1, number * 4, number / 4, -number, Fraction(0), number - Fraction(1, 999),
                          number * number if number != 1 else Fraction(2)]:
                if other != number:
                    self.assert_bool(is_sweep(root, unit[0], ratio(other)), False)

    def test_the_polynomial_otherwise(self):
        source = source_of(221)
        for root, unit, number, _, _ in with_powers(8, 3):
            for at in range(len(unit[0])):
                other = list(unit[0])
                other[at] = other[at] + source.choice([1, -1, Ratio(1, 7)])
                self.assert_bool(is_sweep(root, other, ratio(number)), own_sweep(root, other, number))
            for degree in range(-1, 7):
                poly = some_poly(source, degree)
                self.assert_bool(is_sweep(root, poly, ratio(number)), own_sweep(root, poly, number))

    def test_numbers_that_are_not_above_0(self):
        # x squared plus 1 is D of another root, and squared less nought a square
        self.assert_bool(is_sweep(PLUS_NUMBER, [0, 1], -1), False)
        self.assert_bool(is_sweep(Root([-2, 0, 1]), [-2, 0, 1], 0), False)
        self.assert_bool(is_sweep(PLUS_NUMBER, [-1, 0, 1], 0), False)
        self.assert_bool(is_sweep(PLUS_NUMBER, [], -1), False)
        for number in [0, -1, Ratio(0), Ratio(-1, 2), Ratio(-4)]:
            self.assert_bool(is_sweep(SWEPT, UNIT[0], number), False)

    def test_numbers_alone_and_low_degrees(self):
        for poly, number in [([3], 9), ((3, 0), Ratio(9)), ([], 1), ([-1], 1), ([1, 1], 1), ([0, 0, 1], 1), ([5], 3)]:
            self.assert_bool(is_sweep(SWEPT, poly, number), False)

    def test_quotients_that_are_no_squares(self):
        # x to the fourth less 1 is D times x x + 1, the cube's square less 1 is D times another one
        self.assert_bool(is_sweep(PLUS_NUMBER, [0, 0, 1], 1), False)
        self.assert_bool(is_sweep(PLUS_NUMBER, [0, 0, 0, 1], 1), False)
        self.assert_bool(is_sweep(PLUS_NUMBER, [-1, 0, 2], 1), True)
        self.assert_bool(is_sweep(PLUS_NUMBER, [0, -3, 0, 4], 1), True)
        self.assert_bool(is_sweep(PLUS_NUMBER, [0, -3, 0, 4], Ratio(1)), True)
        self.assert_bool(is_sweep(PLUS_NUMBER, [0, 3, 0, -4], Sub(1)), True)
        self.assert_bool(is_sweep(PLUS_NUMBER, [0, 1], 1), True)
        # a number that is no square
        self.assert_bool(is_sweep(Root([-2, 0, 1]), [0, 1], 2), True)
        self.assert_bool(is_sweep(Root([-2, 0, 4]), [0, 2], 2), True)
        self.assert_bool(is_sweep(Root([-2, 0, 4]), [0, 1], Ratio(1, 2)), True)

    def test_roots_that_are_not_round(self):
        for text in REAL_ALONE[1:2] + REAL_ALONE[4:]:
            root = root_of(text)
            for poly in [root.nearest(), [0, 1], root.poly()]:
                self.assert_bool(is_sweep(root, poly, 1), own_sweep(root, poly, Fraction(1)))

    def test_the_greatest_degree(self):
        unit = power_unit(PLUS_NUMBER, power_unit(PLUS_NUMBER, ([0, 1], [1]), 5), 5)
        self.assert_bool(is_sweep(PLUS_NUMBER, unit[0], 1), True)
        self.assert_bool(is_sweep(PLUS_NUMBER, put_in([-1, 0, 2], put_in(
            [0, -3, 0, 4], [0, 5, 0, -20, 0, 16])), 1), True)
        self.assert_bool(is_sweep(SWEPT, [0] * 30 + [1], 1), False)
        self.assert_bool(is_sweep(SWEPT, [0] * 30 + [1] + [0] * 30, 1), False)
        limit = {"what": "degree", "limit": 30}
        for poly in ([0] * 31 + [1], [1] * 61, (0,) * 60 + (Ratio(1),)):
            for number in (1, 0, -1):
                self.assert_error(TooMany, limit, is_sweep, SWEPT, poly, number)

    def test_not_real(self):
        for text in NOT_REAL:
            self.assert_error(NotReal, {}, is_sweep, root_of(text), [0, 1], 1)
        self.assert_error(NotReal, {}, is_sweep, HALF_REAL, HALF_UNIT[0], 1)
        self.assert_error(NotReal, {}, is_sweep, HALF_REAL, [1] * 32, -1)

    def test_wrong_parameters(self):
        for root in (SWEPT, HALF_REAL):
            good = {"root": root, "poly": [0, 1], "number": 1}
            self.assert_refuses(is_sweep, good, "root", InvalidRoot, NOT_ROOTS)
            self.assert_refuses(is_sweep, good, "poly", InvalidPoly, NOT_POLYS)
            self.assert_refuses(is_sweep, good, "number", InvalidNumber, NOT_NUMBERS)
        self.assert_sequence(is_sweep, [("root", None, InvalidRoot), ("poly", 1, None), ("number", "1", None)])
        self.assert_error(InvalidPoly, {"value": None}, is_sweep, SWEPT, None, None)
        self.assert_error(InvalidNumber, {"value": None}, is_sweep, SWEPT, [1] * 40, None)


def turning_numbers(root, unit):
    """Numbers close to those at which p p is just the unit's number, the upper end of each gap left out."""
    body = frac_times(fracs(root.poly()), fracs(unit[1]))
    posts = [frac(post) for post in fences(ratios(body))]
    found = []
    for low, high in zip(posts, posts[1:]):
        for _ in range(80):
            middle = (low + high) / 2
            same = (frac_worth(body, low) > 0) == (frac_worth(body, middle) > 0)
            low, high = (middle, high) if same else (low, middle)
        found.append(low)
    signs = [frac_worth(fracs(unit[0]), one) > 0 for one in found]
    return [(one, sign) for at, (one, sign) in enumerate(zip(found, signs)) if at == 0 or sign != signs[at - 1]]


def through(points):
    """The polynomial of a lesser degree than there are points (number, worth) with these worths."""
    result = []
    for number, wanted in points:
        piece = [wanted]
        for other, _ in points:
            if other != number:
                piece = frac_times(piece, [-other / (number - other), 1 / (number - other)])
        result = frac_plus(result, piece)
    return result


class GreaterTest(Checks):
    def test_beyond_at_one_number_alone(self):
        # the others' signs are such that at all turning numbers but one f is nearer to nought than p
        for root, unit, number, _, _ in with_powers(6, 3)[::3]:
            turning = turning_numbers(root, unit)
            self.assertEqual(len(turning), len(unit[0]))
            for at in range(len(turning)):
                for size in (Fraction(1, 10 ** 3), Fraction(1, 10 ** 14)):
                    change = through([(one, -size if sign else size) for one, sign in turning[:at] + turning[at + 1:]])
                    other = ratios(frac_plus(fracs(unit[0]), change))
                    found = greater(root, unit, other)
                    self.check_number(root, number, other, found)
                    self.assert_bool(is_greater(root, unit, other, found), True)

    def check_number(self, root, number, poly, found):
        self.assertIs(found.__class__, Ratio)
        self.assertLessEqual(digits(found), 2000)
        self.assertLessEqual(frac_worth(fracs(root.poly()), frac(found)), 0)
        self.assertGreater(frac_worth(fracs(poly), frac(found)) ** 2, number)

    def check(self, root, unit, number, poly):
        found = self.assert_pure(greater, root, unit, poly)
        self.check_number(root, number, poly, found)
        self.assert_bool(is_greater(root, unit, poly, found), True)
        self.assertEqual(greater(poly=poly, unit=unit, root=root), found)

    def check_far(self, root, unit, number, change):
        other = ratios(frac_plus(fracs(unit[0]), [Fraction(one) for one in change]))
        found = greater(root, unit, other)
        self.check_number(root, number, other, found)

    def test_differences_that_change_their_sign_beside_a_turning_number(self):
        # 2 x x - 1, moved: it turns at an inner number, beside which a very small difference is nought
        for third in range(-7, 8):
            step = Fraction(third, 3)
            root, p = Root(ratios([step * step - 1, -2 * step, 1])), [2 * step * step - 1, -4 * step, 2]
            unit = ratios(p), ratios([-2 * step, 2])
            for beside in (Fraction(1, 10 ** 7), Fraction(-1, 10 ** 7), Fraction(1, 10 ** 12)):
                for size in (Fraction(1, 10 ** 20), Fraction(-1, 10 ** 20)):
                    self.check_far(root, unit, 1, [size * (beside - step), size])

    def test_roots_of_p_beside_turning_numbers(self):
        small = Fraction(1, 10 ** 6)
        for third in range(-7, 8):
            step = Fraction(third, 3)
            root, unit = own_made([step, Fraction(-1)], small * small)
            for size in (Fraction(1, 10 ** 30), Fraction(-1, 10 ** 30)):
                self.check_far(root, unit, small * small, [size])
            root, unit = own_made([step * step - 1, -2 * step, 1], small * small)
            for size in (Fraction(1, 10 ** 30), Fraction(-1, 10 ** 30)):
                self.check_far(root, unit, small * small, [size])
                self.check_far(root, unit, small * small, [-size * step, size])

    def test_others_of_the_same_degree_and_head(self):
        for root, unit, number, _, _ in with_powers():
            for at in range(len(unit[0]) - 1):
                other = list(unit[0])
                other[at] = other[at] + [1, -3, Ratio(1, 999999), Ratio(-1, 10 ** 12)][(at + len(unit[0])) % 4]
                self.check(root, unit, number, other)

    def test_much_otherwise(self):
        source = source_of(222)
        for root, unit, number, _, _ in with_powers(8, 3):
            for _ in range(4):
                other = list(some_poly(source, len(unit[0]) - 1))[:len(unit[0]) - 1] + [unit[0][-1]]
                self.check(root, unit, number, other)
                self.check(root, unit, number, tuple([999999] + other[1:]) + (0,))
            if any(one != Ratio(0) for one in unit[0][:-1]):
                self.check(root, unit, number, [0] * (len(unit[0]) - 1) + [unit[0][-1]])

    def test_close_at_most_ends(self):
        # differences that are nought at many of the numbers where p is farthest from nought
        unit = power_unit(PLUS_NUMBER, ([0, 1], [1]), 5)
        for roots in ([1], [-1], [1, -1], [Fraction(-1, 2), 1], [Fraction(1, 2), Fraction(1, 3), 1, -1]):
            change = [Fraction(1)]
            for one in roots:
                change = frac_times(change, [-Fraction(one), Fraction(1)])
            for size in (1, -1, Fraction(1, 10 ** 6), Fraction(-1, 10 ** 6)):
                other = ratios(frac_plus(fracs(unit[0]), [size * one for one in change]))
                self.check(PLUS_NUMBER, unit, Fraction(1), other)

    def test_very_little_otherwise(self):
        for root, unit, number, _, _ in with_powers(9, 3)[::3]:
            for at in (0, len(unit[0]) - 2):
                other = list(unit[0])
                other[at] = other[at] - Ratio(1, 10 ** (60 if at else 150))
                found = greater(root, unit, other)
                self.check_number(root, number, other, found)
                self.assert_bool(is_greater(root, unit, other, found), True)

    def test_great_degrees(self):
        root, unit = own_made([-5, 0, 1], Fraction(2))
        great = power_unit(root, power_unit(root, unit, 5), 5)
        for at in (0, 30, 49):
            other = list(great[0])
            other[at] = other[at] + Ratio(1, 1000)
            self.check(root, great, Fraction(2) ** 25, other)

    def test_p_itself(self):
        for root, unit, _, _, _ in with_powers():
            self.assertIsNone(greater(root, unit, unit[0]))
            self.assertIsNone(greater(root, unit, tuple(unit[0]) + (0,)))
            for number in samples(root)[::3]:
                self.assert_bool(is_greater(root, unit, unit[0], ratio(number)), False)

    def test_moved(self):
        for root, unit, number, _, _ in with_powers(6, 2):
            moved = moved_root(root, -2, Ratio(1, 3))
            halves = put_in(unit[0], [Ratio(1, 3), -2]), put_in(unit[1], [Ratio(1, 3), -2])
            other = [halves[0][0] + Ratio(1, 9)] + halves[0][1:]
            self.check(moved, halves, number, other)

    def test_heads_and_degrees(self):
        for root, unit, _, _, _ in with_powers(8, 3):
            head = unit[0][-1]
            for poly in [[], [0], [1], unit[0][:-1], unit[0] + [1], unit[0][:-1] + [head + 1],
                         [-one for one in unit[0]], unit[0][:-1] + [-head],
                         [0] * 60 + [head], (0, 0, head, 0) if len(unit[0]) != 3 else (head,)]:
                if len(fracs(poly)) != len(unit[0]) or fracs(poly)[-1] != frac(head):
                    self.assert_error(UnlikeHeads, {}, greater, root, unit, poly)
                    self.assert_error(UnlikeHeads, {}, is_greater, root, unit, poly, None)

    def test_wrong_parameters(self):
        for function, more in ((greater, {}), (is_greater, {"value": 1})):
            good = {"root": SWEPT, "unit": UNIT, "poly": [0, 9, -6, 1], **more}
            self.assert_refuses(function, good, "root", InvalidRoot, NOT_ROOTS)
            self.assert_refuses(function, good, "unit", InvalidUnit, NOT_SWEPT_UNITS)
            self.assert_refuses(function, good, "poly", InvalidPoly, NOT_POLYS)
            for root, unit in [(HALF_REAL, HALF_UNIT), (NEVER_REAL, NEVER_UNIT)]:
                good = {"root": root, "unit": unit, "poly": [5], **more}
                self.assert_error(NotReal, {}, function, **good)
                self.assert_refuses(function, good, "poly", InvalidPoly, NOT_POLYS)
        self.assert_sequence(greater, [("root", None, InvalidRoot), ("unit", None, None), ("poly", None, None)])
        self.assert_error(InvalidUnit, {"value": None}, greater, SWEPT, None, None)


class IsGreaterTest(Checks):
    def test_all_kinds_of_values(self):
        kinds = NOT_NUMBERS + [[2], (Ratio(2),), "2", Ratio, [Ratio(2)]]
        for value in kinds:
            self.assert_bool(is_greater(SWEPT, UNIT, [0, 9, -6, 1], value), False)

    def test_numbers(self):
        met = set()
        for root, unit, number, _, _ in with_powers(8, 3):
            for more in (1, Ratio(-1, 5)):
                poly = [unit[0][0] + more] + unit[0][1:]
                for place in samples(root):
                    on_it = frac_worth(fracs(root.poly()), place) <= 0
                    above = frac_worth(fracs(poly), place) ** 2 > number
                    met.add((on_it, above))
                    self.assert_bool(is_greater(root, unit, poly, ratio(place)), on_it and above)
                    if place.denominator == 1:
                        self.assert_bool(is_greater(root, unit, poly, int(place)), on_it and above)
        self.assertEqual(len(met), 4)

    def test_just_the_number(self):
        # at 2, an end, the polynomial's square is just the number: not above it
        root, unit = Root([-4, 0, 1]), ([0, 1], [1])
        for poly, wanted in [([0, 1], False), ([1, 1], True), ([-1, 1], False), ([-4, 1], False),
                             ([Ratio(1, 9), 1], True)]:
            self.assert_bool(is_greater(root, unit, poly, 2), wanted)
        self.assert_bool(is_greater(root, unit, [1, 1], 3), False)
        self.assert_bool(is_greater(root, unit, [1, 1], 1), False)
        self.assert_bool(is_greater(root, unit, [1, 1], Ratio(10001, 10000)), True)
        self.assert_bool(is_greater(root, unit, [1, 1], Sub(2)), True)

    def test_units_and_numbers(self):
        for root, unit, _ in real_units():
            self.assert_bool(is_greater(value=10 ** 5, poly=unit[0], unit=unit, root=root), False)
