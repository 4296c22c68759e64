"""rootsround.polys: polynomials, and how they are reckoned."""

from rootsround.errors import InvalidNumber, InvalidPoly, NoughtPoly, TooMany
from rootsround.polys import (degree, derived, divided, is_poly, minus, plus, put_in, scaled, times, told, worth)
from rootsround.ratios import Ratio
from tests.helpers import (NOT_NUMBERS, NOT_POLYS, Checks, Sub, frac, frac_plus, frac_times, frac_worth, fracs, ratio,
                           ratios, some_number, some_poly, source_of)

NOUGHTS = [[], (), [0], (0,), [0] * 61, [Ratio(0)], (0, Ratio(0), 0)]
X = [0, 1]


def power_of_x(k):
    return [0] * k + [1]


class ToldTest(Checks):
    def test_is_poly(self):
        for value in NOUGHTS + [[1], (1,), [1, Ratio(1, 2)], [0] * 61, (1,) * 61, [Sub(2)], [10 ** 100, Ratio(3)]]:
            self.assert_bool(is_poly(value), True)
            self.assert_bool(is_poly(value=value), True)
        for value in NOT_POLYS:
            with self.subTest(value=value):
                self.assert_bool(is_poly(value), False)

    def test_each_wrong_number_at_each_place(self):
        for value in NOT_NUMBERS:
            for at in (0, 1, 60):
                numbers = [1] * 61
                numbers[at] = value
                self.assert_bool(is_poly(numbers), False)
                self.assert_bool(is_poly(tuple(numbers)), False)
                self.assert_error(InvalidPoly, {"value": numbers}, told, numbers)

    def test_told(self):
        for value in NOUGHTS:
            self.assertEqual(self.assert_pure(told, value), [])
        self.assertEqual(told([1, 0, 2, 0]), [Ratio(1), Ratio(0), Ratio(2)])
        self.assertEqual(told((Ratio(4, 2), 0, Ratio(0))), [Ratio(2)])
        self.assertEqual(told(poly=[0, 0, 5]), [Ratio(0), Ratio(0), Ratio(5)])
        self.assertEqual(len(told([1] * 61)), 61)
        for value in [[1, 2, Ratio(3), 0], (Sub(1), 0)]:
            self.assert_told(self.assert_pure(told, value))

    def test_told_is_new(self):
        poly = [Ratio(1), Ratio(2)]
        found = told(poly)
        self.assertIsNot(found, poly)
        found.append(Ratio(3))
        self.assertEqual(poly, [Ratio(1), Ratio(2)])

    def test_degree(self):
        for value in NOUGHTS:
            self.assertEqual(degree(value), -1)
        for value, wanted in [([7], 0), ([0, 1], 1), ([1, 0, 2, 0], 2), ([1] + [0] * 60, 0), ([1] * 61, 60),
                              ((0, Ratio(0), Ratio(1, 3), 0), 2)]:
            self.assertEqual(degree(value), wanted)
            self.assertIs(degree(poly=value).__class__, int)


class ReckonedTest(Checks):
    def test_sums_products_derived(self):
        source = source_of(2)
        for _ in range(150):
            first = some_poly(source, source.randint(-1, 12))
            second = some_poly(source, source.randint(-1, 12))
            number = some_number(source)
            ours, theirs = fracs(first), fracs(second)
            opposite = [-n for n in theirs]
            found = [(plus, (first, second), frac_plus(ours, theirs)),
                     (minus, (first, second), frac_plus(ours, opposite)),
                     (times, (first, second), frac_times(ours, theirs)),
                     (scaled, (first, number), fracs([n * frac(number) for n in ours])),
                     (derived, (first,), [k * n for k, n in enumerate(ours)][1:])]
            for function, args, wanted in found:
                result = self.assert_pure(function, *args)
                self.assert_told(result)
                self.assertEqual(result, ratios(wanted))

    def test_heads_that_fall_away(self):
        self.assertEqual(plus([1, 2, 3], [1, -2, -3]), [Ratio(2)])
        self.assertEqual(minus([1, 2, 3], (1, 2, 3)), [])
        self.assertEqual(minus([0, 0, Ratio(6, 2)], [0, 0, 3, 0]), [])
        self.assertEqual(scaled([1, 2, 3], 0), [])
        self.assertEqual(scaled([1, 2, 3], Ratio(0)), [])
        self.assertEqual(derived([7]), [])
        self.assertEqual(derived([]), [])

    def test_polynomials_of_61_numbers(self):
        source = source_of(3)
        first, second = some_poly(source, 60), some_poly(source, 60)
        self.assertEqual(plus(first, second), ratios(frac_plus(fracs(first), fracs(second))))
        self.assertEqual(len(scaled(first, 3)), 61)
        self.assertEqual(len(derived(first)), 60)
        self.assertEqual(worth([1] * 61, 1), Ratio(61))

    def test_times_to_degree_60_and_beyond(self):
        for left, right in [(0, 60), (60, 0), (30, 30), (1, 59), (59, 1)]:
            product = times(power_of_x(left), [0] * right + [2])
            self.assertEqual(product, [Ratio(0)] * 60 + [Ratio(2)])
        for left, right in [(1, 60), (60, 1), (30, 31), (60, 60)]:
            self.assert_error(TooMany, {"what": "degree", "limit": 60}, times, power_of_x(left), power_of_x(right))
        for nought in NOUGHTS:
            self.assertEqual(times(nought, power_of_x(60)), [])
            self.assertEqual(times(power_of_x(60), nought), [])
        self.assertEqual(times([2] + [0] * 60, [1] * 61), [Ratio(2)] * 61)

    def test_put_in(self):
        source = source_of(4)
        for _ in range(80):
            outer, inner = some_poly(source, source.randint(-1, 6)), some_poly(source, source.randint(-1, 5))
            wanted = []
            for number in reversed(fracs(outer)):
                wanted = frac_plus(frac_times(wanted, fracs(inner)), fracs([number]))
            result = self.assert_pure(put_in, outer, inner)
            self.assert_told(result)
            self.assertEqual(result, ratios(wanted))

    def test_put_in_noughts_and_numbers(self):
        for nought in NOUGHTS:
            self.assertEqual(put_in(nought, [1] * 61), [])
            self.assertEqual(put_in([5, 1, 1], nought), [Ratio(5)])
            self.assertEqual(put_in([0, 1, 1], nought), [])
            self.assertEqual(put_in([1] * 61, nought), [Ratio(1)])
        self.assertEqual(put_in([1] * 61, [1]), [Ratio(61)])
        self.assertEqual(put_in([3], [1] * 61), [Ratio(3)])
        self.assertEqual(put_in([-1, 0, 1], [-1]), [])

    def test_put_in_to_degree_60_and_beyond(self):
        for left, right in [(1, 60), (60, 1), (6, 10), (10, 6), (2, 30), (7, 8), (8, 7)]:
            result = put_in(power_of_x(left), power_of_x(right))
            self.assertEqual(result, [Ratio(0)] * (left * right) + [Ratio(1)])
        for left, right in [(2, 31), (31, 2), (61 // 2, 3), (8, 8), (60, 2), (2, 60), (60, 60), (5, 13)]:
            self.assert_error(TooMany, {"what": "degree", "limit": 60}, put_in, power_of_x(left), power_of_x(right))
        self.assertEqual(degree(put_in([1] * 61, [1, 1])), 60)

    def test_worth(self):
        source = source_of(5)
        for _ in range(100):
            poly, number = some_poly(source, source.randint(-1, 20)), some_number(source)
            result = self.assert_pure(worth, poly, number)
            self.assertIs(result.__class__, Ratio)
            self.assertEqual(result, ratio(frac_worth(fracs(poly), frac(number))))
        self.assertEqual([worth([], 7), worth([0], 7), worth([3, 5], 0)], [Ratio(0), Ratio(0), Ratio(3)])

    def test_divided(self):
        source = source_of(6)
        for _ in range(150):
            poly, other = some_poly(source, source.randint(-1, 14)), some_poly(source, source.randint(0, 9))
            result = self.assert_pure(divided, poly, other)
            self.assertIs(result.__class__, tuple)
            quotient, rest = result
            self.assert_told(quotient)
            self.assert_told(rest)
            self.assertLess(len(rest), len(fracs(other)))
            back = frac_plus(frac_times(fracs(quotient), fracs(other)), fracs(rest))
            self.assertEqual(back, fracs(poly))

    def test_divided_without_rest(self):
        source = source_of(7)
        for _ in range(40):
            first, second = some_poly(source, source.randint(0, 30)), some_poly(source, source.randint(0, 30))
            self.assertEqual(divided(times(first, second), second), (told(first), []))
        self.assertEqual(divided([1] * 61, [1] * 61), ([Ratio(1)], []))
        self.assertEqual(divided([2] * 61, [-2]), ([Ratio(-1)] * 61, []))
        self.assertEqual(divided([], [0, 5]), ([], []))
        self.assertEqual(divided([1, 2], [0, 0, 5]), ([], [Ratio(1), Ratio(2)]))

    def test_great_numbers(self):
        great = Ratio(10 ** 300 + 7, 3 ** 200)
        product = times([great, 1], [great, -1])
        self.assertEqual(product, [great * great, Ratio(0), Ratio(-1)])
        self.assertEqual(divided(product, [great, 1]), ([great, Ratio(-1)], []))
        self.assertEqual(worth([great, -1], great), Ratio(0))


class WrongTest(Checks):
    TWO = [plus, minus, times, put_in, divided]

    def test_wrong_polynomials(self):
        for function in [told, degree, derived]:
            self.assert_refuses(function, {"poly": [1]}, "poly", InvalidPoly, NOT_POLYS)
        for function in self.TWO:
            good = {"poly": [1, 2], "other": (1,)}
            self.assert_refuses(function, good, "poly", InvalidPoly, NOT_POLYS)
            self.assert_refuses(function, good, "other", InvalidPoly, NOT_POLYS)
        for function in [scaled, worth]:
            good = {"poly": [1, 2], "number": 3}
            self.assert_refuses(function, good, "poly", InvalidPoly, NOT_POLYS)
            self.assert_refuses(function, good, "number", InvalidNumber, NOT_NUMBERS)

    def test_several_wrong_at_once(self):
        for function in self.TWO:
            self.assert_sequence(function, [("poly", [True], InvalidPoly), ("other", "x", InvalidPoly)])
            self.assert_sequence(function, [("poly", [1] * 62, InvalidPoly), ("other", [], InvalidPoly)])
        for function in [scaled, worth]:
            self.assert_sequence(function, [("poly", None, InvalidPoly), ("number", "x", InvalidNumber)])
        wrong = [None]
        self.assert_error(InvalidPoly, {"value": wrong}, times, [1] * 61, wrong)
        self.assert_error(InvalidPoly, {"value": wrong}, put_in, [1] * 61, wrong)
        self.assert_error(InvalidNumber, {"value": False}, scaled, [], False)

    def test_divided_by_nought(self):
        for nought in NOUGHTS:
            self.assert_error(NoughtPoly, {}, divided, [1, 2], nought)
            self.assert_error(NoughtPoly, {}, divided, [], nought)
            self.assert_error(InvalidPoly, {"value": None}, divided, None, nought)

    def test_by_name(self):
        self.assertEqual(plus(other=[1], poly=[0, 1]), [Ratio(1), Ratio(1)])
        self.assertEqual(minus(other=[1], poly=[0, 1]), [Ratio(-1), Ratio(1)])
        self.assertEqual(times(other=[2], poly=[0, 1]), [Ratio(0), Ratio(2)])
        self.assertEqual(put_in(other=[2], poly=[0, 1]), [Ratio(2)])
        self.assertEqual(divided(other=[2], poly=[0, 1]), ([Ratio(0), Ratio(1, 2)], []))
        self.assertEqual(scaled(number=2, poly=[0, 1]), [Ratio(0), Ratio(2)])
        self.assertEqual(worth(number=2, poly=[0, 1]), Ratio(2))
        self.assertEqual(derived(poly=X), [Ratio(1)])
