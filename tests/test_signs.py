"""rootsround.signs: real roots and fences."""

from fractions import Fraction

from rootsround.errors import InvalidNumber, InvalidPoly, NoughtPoly
from rootsround.polys import minus, plus, scaled, times, worth
from rootsround.ratios import Ratio
from rootsround.signs import fences, is_fences, root_count
from tests.helpers import NOT_NUMBERS, NOT_POLYS, Checks, Sub, frac, fracs, ratio, some_poly, source_of

NOUGHTS = [[], (), [0], (0, Ratio(0)), [0] * 61]
NOT_BOUNDS = [value for value in NOT_NUMBERS if value is not None]


def made_of(roots, more=(1,)):
    """The product of x less each root, and more."""
    poly = list(more)
    for one in roots:
        poly = times(poly, [-ratio(one), 1])
    return poly


def frac_rest(first, second):
    rest = list(first)
    while len(rest) >= len(second):
        factor, ahead = rest[-1] / second[-1], len(rest) - len(second)
        rest = [n - factor * (second[k - ahead] if k >= ahead else 0) for k, n in enumerate(rest)][:-1]
        while rest and rest[-1] == 0:
            rest.pop()
    return rest


def sturm_count(poly, low, high):
    """The same count in another way: by Sturm's signs, of Fractions."""
    row = fracs(poly)
    chain = [row, [k * n for k, n in enumerate(row)][1:]]
    while chain[-1]:
        chain.append([-n for n in frac_rest(chain[-2], chain[-1])])

    def changes(number, infinite):
        signs = []
        for one in chain[:-1]:
            if number is None:
                worth_there = one[-1] * (infinite ** (len(one) - 1))
            else:
                worth_there = sum(n * number ** k for k, n in enumerate(one))
            if worth_there != 0:
                signs.append(worth_there > 0)
        return sum(1 for a, b in zip(signs, signs[1:]) if a != b)

    return changes(low, -1) - changes(high, 1)


def digits(number):
    return max(len(str(abs(number.top))), len(str(number.bottom)))


class CountTest(Checks):
    def check(self, poly, low, high, wanted):
        found = self.assert_pure(root_count, poly, low, high)
        self.assertIs(found.__class__, int)
        self.assertEqual(found, wanted)
        self.assertEqual(root_count(high=high, low=low, poly=poly), wanted)

    def test_known_roots_and_all_bounds(self):
        roots = [Fraction(-7, 2), Fraction(-2), Fraction(0), Fraction(1, 3), Fraction(1, 2), Fraction(5)]
        bounds = [None] + sorted(roots + [Fraction(k, 4) for k in range(-20, 25, 3)])
        for poly in [made_of(roots), made_of(roots + roots[:3] + roots[2:4], [2, 0, 1]), scaled(made_of(roots), -3)]:
            for low in bounds:
                for high in bounds:
                    wanted = len([one for one in roots if (low is None or one > low) and (high is None or one <= high)])
                    self.check(poly, low if low is None else ratio(low), high if high is None else ratio(high), wanted)

    def test_against_sturm(self):
        source = source_of(21)
        for _ in range(150):
            poly = some_poly(source, source.randint(0, 9), 9, 4)
            low, high = sorted([Fraction(source.randint(-12, 12), source.randint(1, 4)) for _ in range(2)])
            # Sturm's signs want bounds at which no two of the chain are 0 together: none of several alike roots
            for bounds in [(None, None), (low, None), (None, high), (low, high)]:
                if low == high:
                    continue
                wanted = sturm_count(poly, *bounds)
                self.check(poly, *[one if one is None else ratio(one) for one in bounds], wanted)

    def test_bounds_that_are_roots(self):
        poly = made_of([1, 2, 3])
        for low, high, wanted in [(1, 3, 2), (1, 2, 1), (0, 1, 1), (3, 9, 0), (1, None, 2), (None, 1, 1), (None, 3, 3),
                                  (3, None, 0), (Ratio(1), Ratio(3), 2), (Sub(1), Sub(2), 1)]:
            self.check(poly, low, high, wanted)

    def test_low_not_below_high(self):
        poly = made_of([1, 2, 3])
        for low, high in [(2, 2), (3, 1), (Ratio(5, 2), Ratio(5, 2)), (2, Ratio(2)), (9, 8), (3, -3), (100, -100)]:
            self.check(poly, low, high, 0)

    def test_bounds_beyond_all_roots(self):
        poly = made_of([-1, 1])
        for low, high, wanted in [(-10 ** 6, 10 ** 6, 2), (10 ** 6, None, 0), (None, -10 ** 6, 0), (-10 ** 6, None, 2),
                                  (None, 10 ** 6, 2), (5, 6, 0), (-6, -5, 0)]:
            self.check(poly, low, high, wanted)

    def test_numbers_and_no_real_roots(self):
        for poly in [[5], [Ratio(-1, 7), 0], [1, 0, 1], [1, 0, 0, 0, 1], [5] + [0] * 60, [1] + [0] * 59 + [2]]:
            for low, high in [(None, None), (0, None), (None, 0), (-5, 5), (3, 3)]:
                self.check(poly, low, high, 0)

    def test_several_alike_roots(self):
        for many in range(1, 12):
            poly = [1]
            for _ in range(many):
                poly = times(poly, [-2, 3])
            self.check(poly, None, None, 1)
            self.check(poly, Ratio(2, 3), None, 0)
            self.check(poly, None, Ratio(2, 3), 1)
            self.check(times(poly, [0, 0, 1]), -1, 1, 2)

    def test_61_numbers(self):
        self.check(made_of(range(1, 61)), None, None, 60)
        self.check(made_of(range(1, 61)), 10, 20, 10)
        self.check(made_of([Fraction(1, k) for k in range(1, 61)]), 0, Ratio(1, 2), 59)
        self.check([-1] * 60 + [1], None, None, 2)

    def test_roots_near_to_one_another(self):
        close = [Fraction(1, 3), Fraction(1, 3) + Fraction(1, 10 ** 40)]
        self.check(made_of(close), None, None, 2)
        self.check(made_of(close), ratio(close[0]), ratio(close[1]), 1)
        self.check(plus(made_of([close[0]] * 2), [Ratio(1, 10 ** 60)]), None, None, 0)
        self.check(minus(made_of([close[0]] * 2), [Ratio(1, 10 ** 60)]), None, None, 2)

    def test_great_numbers(self):
        great = 10 ** 200
        self.check(made_of([great, -great, Fraction(1, great)]), None, None, 3)
        self.check(made_of([great, -great, Fraction(1, great)]), 0, None, 2)


class FencesTest(Checks):
    def check(self, poly, many):
        found = self.assert_pure(fences, poly)
        self.assertIs(found.__class__, list)
        self.assertEqual(len(found), many + 1 if many else 0)
        for number in found:
            self.assertIs(number.__class__, Ratio)
            self.assertLessEqual(digits(number), 2000)
            self.assertNotEqual(worth(poly, number), Ratio(0))
        self.assertTrue(all(a.is_below(b) for a, b in zip(found, found[1:])))
        if len(poly) < 25:
            for low, high in zip(found, found[1:]):
                self.assertEqual(sturm_count(poly, frac(low), frac(high)), 1)
        self.assert_bool(is_fences(poly, found), True)
        self.assert_bool(is_fences(value=tuple(found), poly=tuple(poly)), True)
        return found

    def test_known_roots(self):
        source = source_of(22)
        for _ in range(60):
            roots = [Fraction(source.randint(-8, 8), source.randint(1, 4)) for _ in range(source.randint(0, 7))]
            more = source.choice([[1], [3, 0, 1], [2, 2, 1], [-5]])
            self.check(made_of(roots, more), len(set(roots)))

    def test_against_sturm(self):
        source = source_of(23)
        for _ in range(80):
            poly = some_poly(source, source.randint(0, 12), 30, 5)
            self.check(poly, sturm_count(poly, None, None))

    def test_roots_in_all_middles(self):
        self.check(made_of([0]), 1)
        self.check(made_of([-1, 0, 1]), 3)
        self.check(made_of([Fraction(k, 4) for k in range(-12, 13)]), 25)
        self.check(made_of(range(-30, 30)), 60)

    def test_roots_near_to_one_another(self):
        self.check(made_of([Fraction(1, 3), Fraction(1, 3) + Fraction(1, 10 ** 60)]), 2)
        steep = [-1, 707]
        self.check(minus([0] * 30 + [1], scaled(times(steep, steep), 2)), 4)

    def test_without_real_roots(self):
        for poly in [[5], (Ratio(-1, 3),), [1, 0, 1], [7] + [0] * 59 + [1]]:
            self.assertEqual(self.check(list(poly), 0), [])
            for value in [[0], [0, 1], (0,), [Ratio(1)]]:
                self.assert_bool(is_fences(poly, value), False)
            self.assert_bool(is_fences(poly, ()), True)

    def test_what_is_no_fences(self):
        poly = made_of([-1, 0, 2])
        good = [-2, Ratio(-1, 2), 1, 3]
        self.assert_bool(is_fences(poly, good), True)
        self.assert_bool(is_fences(poly, tuple(good)), True)
        self.assert_bool(is_fences(poly, [-10 ** 9, Ratio(-1, 10 ** 9), Ratio(1, 10 ** 9), Ratio(10 ** 9)]), True)
        for value in [good[::-1], good[:-1], good[1:], good + [4], [-3] + good, [], [good], [-2, -2, 1, 3],
                      [-2, Ratio(-1, 2), Ratio(-1, 2), 3], [-2, Ratio(-1, 2), 3, 1], [-1, Ratio(-1, 2), 1, 3],
                      [-2, 0, 1, 3], [-2, Ratio(-1, 2), 1, 2], [-2, Ratio(-1, 2), 2, 3], [3, 4, 5, 6],
                      [-2, Ratio(1, 2), 1, 3], [-2, 1, Ratio(-1, 2), 3], [-2, Ratio(-3, 4), Ratio(-1, 2), 3],
                      [Ratio(-3, 4), Ratio(-1, 2), 1, 3], [-2, Ratio(-1, 2), 1, Ratio(3, 2)], [-2, -3, 1, 3],
                      [4, Ratio(-1, 2), 1, 3], [-2, Ratio(-1, 2), 1, -3]]:
            with self.subTest(value=value):
                self.assert_bool(is_fences(poly, value), False)
        for value in NOT_NUMBERS:
            for at in range(4):
                changed = list(good)
                changed[at] = value
                self.assert_bool(is_fences(poly, changed), False)
            self.assert_bool(is_fences(poly, value), False)
        for value in NOT_POLYS + [None, {0: -2}, "text", iter(good)]:
            self.assert_bool(is_fences(poly, value), False)

    def test_fences_of_a_square_count_each_root_once(self):
        self.assert_bool(is_fences([1, 2, 1], [-2, 0]), True)
        self.assert_bool(is_fences([1, 2, 1], [-2, Ratio(-3, 2), 0]), False)


class WrongTest(Checks):
    def test_wrong_parameters(self):
        good = {"poly": [1, 2], "low": 0, "high": None}
        self.assert_refuses(root_count, good, "poly", InvalidPoly, NOT_POLYS)
        self.assert_refuses(root_count, good, "low", InvalidNumber, NOT_BOUNDS)
        self.assert_refuses(root_count, good, "high", InvalidNumber, NOT_BOUNDS)
        self.assert_refuses(fences, {"poly": [1]}, "poly", InvalidPoly, NOT_POLYS)
        self.assert_refuses(is_fences, {"poly": [1], "value": []}, "poly", InvalidPoly, NOT_POLYS)

    def test_several_wrong_at_once(self):
        self.assert_sequence(root_count, [("poly", [None], InvalidPoly), ("low", "a", None), ("high", "b", None)])
        for poly in [[1, 2]] + NOUGHTS:
            self.assert_error(InvalidNumber, {"value": True}, root_count, poly, True, "b")
            self.assert_error(InvalidNumber, {"value": "b"}, root_count, poly, None, "b")
            self.assert_error(InvalidNumber, {"value": "b"}, root_count, poly, 5, "b")
        self.assert_sequence(is_fences, [("poly", "x", InvalidPoly), ("value", None, None)])

    def test_nought(self):
        for nought in NOUGHTS:
            for low, high in [(None, None), (0, 1), (1, 0), (None, 0), (0, None)]:
                self.assert_error(NoughtPoly, {}, root_count, nought, low, high)
            self.assert_error(NoughtPoly, {}, fences, nought)
            for value in [[], [1], None, "x"]:
                self.assert_error(NoughtPoly, {}, is_fences, nought, value)
