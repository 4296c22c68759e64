"""rootsround.parts: common parts, shares, squares."""

from rootsround.errors import InvalidPoly, NoughtPoly
from rootsround.parts import common, has_square, is_shares, odd_part, shares, square_part
from rootsround.plain import cleared
from rootsround.polys import degree, derived, divided, minus, plus, put_in, scaled, times, told
from rootsround.ratios import Ratio
from rootsround.wholes import are_apart, last_rest
from tests.helpers import NOT_POLYS, Checks, fracs, ratios, some_number, some_poly, source_of

NOUGHTS = [[], (), [0], (0, Ratio(0)), [0] * 61]
ONE = [Ratio(1)]


def frac_common(first, second):
    """The common part, by Fractions and the rests alone."""
    while second:
        rest = list(first)
        while len(rest) >= len(second):
            factor = rest[-1] / second[-1]
            ahead = len(rest) - len(second)
            rest = [n - factor * (second[k - ahead] if k >= ahead else 0) for k, n in enumerate(rest)][:-1]
            while rest and rest[-1] == 0:
                rest.pop()
        first, second = second, rest
    return [n / first[-1] for n in first]


def digits(number):
    return max(len(str(abs(number.top))), len(str(number.bottom)))


class CommonTest(Checks):
    def test_against_fractions(self):
        source = source_of(11)
        for _ in range(120):
            part = some_poly(source, source.randint(0, 4))
            first = times(part, some_poly(source, source.randint(-1, 6)))
            second = times(part, some_poly(source, source.randint(-1, 6)))
            result = self.assert_pure(common, first, second)
            self.assert_told(result)
            self.assertEqual(result, ratios(frac_common(fracs(first), fracs(second))))
            self.assertEqual(common(second, first), result)
            if first or second:
                self.assertEqual(result[-1], Ratio(1))
                self.assertEqual(divided(first, result)[1], [])
                self.assertEqual(divided(second, result)[1], [])
                self.assertEqual(divided(result, part)[1], [])

    def test_noughts_and_numbers(self):
        for nought in NOUGHTS:
            for other in NOUGHTS:
                self.assertEqual(common(nought, other), [])
            self.assertEqual(common(nought, [2, 4]), [Ratio(1, 2), Ratio(1)])
            self.assertEqual(common([2, 4, 0], nought), [Ratio(1, 2), Ratio(1)])
            self.assertEqual(common(nought, [Ratio(-3, 7)]), ONE)
        self.assertEqual([common([5], [7]), common([5], [1, 2]), common([1, 2], (Ratio(1, 3),))], [ONE] * 3)

    def test_61_numbers(self):
        self.assertEqual(common([1] * 61, [2] * 61), [Ratio(1)] * 61)
        self.assertEqual(common([-1] + [0] * 59 + [1], [-1] + [0] * 44 + [1]), [Ratio(-1)] + [Ratio(0)] * 14 + ONE)
        source = source_of(12)
        part = told(some_poly(source, 30))
        first, second = times(part, some_poly(source, 30)), times(part, some_poly(source, 30))
        self.assertEqual(common(first, second), scaled(part, Ratio(1).over(part[-1])))
        self.assertEqual(common(some_poly(source, 60, 999999, 99), some_poly(source, 60, 999999, 99)), ONE)

    def test_numbers_that_the_great_prime_divides(self):
        prime = 2 ** 61 - 1
        heads = ([1, Ratio(prime)], [1, Ratio(2 * prime)])
        self.assertEqual(common(*heads), ONE)
        self.assertEqual(common([1, prime], [prime, prime * prime]), [Ratio(1, prime), Ratio(1)])
        self.assertEqual(common([prime, 1], [2 * prime, 1]), ONE)
        self.assertEqual(common([0, 1], [prime, 1]), ONE)
        self.assert_bool(are_apart([prime, 1], [0, 1]), False)
        self.assert_bool(are_apart([1, 1], [2, 1]), True)
        self.assert_bool(are_apart([1, 0, prime], [2, 1]), False)

    def test_great_numbers(self):
        great = Ratio(10 ** 200 + 1, 7 ** 100)
        part = [great, 1]
        self.assertEqual(common(times(part, [1, 1]), times(part, [-1, 0, 1])), times(part, [1, 1]))
        self.assertEqual(common([great, 0, 1], [great + 1, 0, 1]), ONE)

    def test_gaps_between_the_degrees_of_rests(self):
        source = source_of(18)
        for gap in (2, 3, 4):
            inner = [0] * gap + [1]
            for _ in range(15):
                part, more = some_poly(source, source.randint(1, 2)), some_poly(source, 1)
                first = times(put_in(times(part, some_poly(source, 4)), inner), more)
                second = times(put_in(times(part, some_poly(source, 3)), inner), more)
                result = common(first, second)
                self.assertEqual(result, ratios(frac_common(fracs(first), fracs(second))))
                self.assertGreater(degree(result), gap)
        knuth = times([-5, 2, 8, -3, -3, 0, 1, 0, 1], [2, 0, 0, 5]), times([21, -9, -4, 0, 5, 0, 3], [2, 0, 0, 5])
        self.assertEqual(common(*knuth), [Ratio(2, 5), Ratio(0), Ratio(0), Ratio(1)])

    def test_rests_have_no_needless_factor(self):
        last, share = last_rest([1, 0, 0, 0, 1], [1, 2, 3], [1], [])
        self.assertEqual(len(last), 1)
        quotient, rest = divided(plus(last, [-n for n in times(share, [1, 0, 0, 0, 1])]), [1, 2, 3])
        self.assertEqual(rest, [])
        self.assert_told(quotient)


class SharesTest(Checks):
    def check(self, poly, other):
        value = self.assert_pure(shares, poly, other)
        self.assertIs(value.__class__, tuple)
        self.assertEqual(len(value), 2)
        for part in value:
            self.assert_told(part)
            self.assertLessEqual(len(part), 61)
            for number in part:
                self.assertLessEqual(digits(number), 2000)
        self.assertEqual(plus(times(value[0], poly), times(value[1], other)), common(poly, other))
        self.assert_bool(is_shares(poly, other, value), True)
        return value

    def test_shares(self):
        source = source_of(13)
        for _ in range(120):
            part = some_poly(source, source.randint(0, 3))
            first = times(part, some_poly(source, source.randint(-1, 7)))
            second = times(part, some_poly(source, source.randint(-1, 7)))
            self.check(first, second)

    def test_noughts_numbers_and_multiples(self):
        for poly, other in [([], []), ([0], (0, 0)), ([], [3]), ([3], []), ([0, 4], []), ([], [1, 4]), ([2], [3]),
                            ([2], [1, 1]), ([1, 1], [Ratio(2, 3)]), ([1, 1], [1, 1]), ([1, 1], [2, 2]),
                            ([1, 2, 1], [1, 1]), ([1, 1], [1, 2, 1]), ([-1, 0, 1], [1, 2, 1])]:
            self.check(poly, other)

    def test_gaps_between_degrees(self):
        for poly, other in [([1, 0, 0, 0, 0, 1], [1, 0, 1]), ([2, 0, 0, 0, 0, 0, 0, 3], [0, 1, 5]),
                            ([1] + [0] * 11 + [5], [3, 0, 0, 0, 7]), ([1, 0, 0, 2], [5, 0, 0, 0, 0, 0, 0, 4])]:
            self.check(poly, other)

    def test_gaps_between_the_degrees_of_rests(self):
        self.check([-5, 2, 8, -3, -3, 0, 1, 0, 1], [21, -9, -4, 0, 5, 0, 3])
        source = source_of(19)
        for gap in (2, 3, 4, 5):
            inner = [0] * gap + [1]
            for _ in range(15):
                more = some_poly(source, source.randint(0, 1))
                first, second = some_poly(source, source.randint(2, 5)), some_poly(source, source.randint(2, 5))
                self.check(times(put_in(first, inner), more), times(put_in(second, inner), more))

    def test_rests_without_fractions(self):
        source = source_of(20)
        for gap in (1, 2, 3):
            inner = [0] * gap + [1]
            for _ in range(20):
                first = cleared(put_in(some_poly(source, 5), inner))[0]
                second = cleared(put_in(some_poly(source, 4), inner))[0]
                last, share = last_rest(first, second, [1], [])
                left = minus(last, times(share, first))
                self.assertEqual(divided(left, second)[1], [])
                self.assertEqual(divided(last, common(first, second))[1], [])

    def test_great_degrees(self):
        source = source_of(14)
        for poly, other in [([1] * 61, [1] * 60), (some_poly(source, 30, 9, 1), some_poly(source, 29, 9, 1)),
                            ([1] * 61, [7])]:
            value = shares(poly, other)
            self.assert_bool(is_shares(poly, other, value), True)
        first = [source.randint(-999999, 999999) for _ in range(60)] + [999983]
        second = [source.randint(-999999, 999999) for _ in range(60)] + [999979]
        value = shares(first, second)
        self.assert_bool(is_shares(first, second, value), True)
        self.assertLessEqual(max(digits(number) for part in value for number in part), 2000)

    def test_other_shares_are_shares_too(self):
        poly, other = [-1, 0, 1], [1, 2, 1]
        first, second = shares(poly, other)
        for factor in [[1], [Ratio(1, 3), 5], [0, 0, 0, -2]]:
            lower, upper = times(factor, [1, 1]), times(factor, [1, -1])
            self.assert_bool(is_shares(poly, other, (plus(first, lower), plus(second, upper))), True)
        self.assert_bool(is_shares([], [], ([1, 2], [Ratio(3)])), True)
        self.assert_bool(is_shares((1,), (0, 1), ((1,), ())), True)
        self.assert_bool(is_shares([], [0, 2], ([7, 7], [0, 0])), False)
        self.assert_bool(is_shares([], [0, 2], ([7, 7], [Ratio(1, 2)])), True)

    def test_what_is_no_shares(self):
        poly, other = [-1, 0, 1], [1, 2, 1]
        good = ([Ratio(-1, 2)], [Ratio(1, 2)])
        for value in [([Ratio(1, 2)], [Ratio(1, 2)]), ([-1], [1]), ([0, 1], [1]), ([], []), ([1], []),
                      list(good), good + ([],), (good[0],), (), (good,), [good], None, 1, "ab", {}, object(),
                      (good[0], None), (None, good[1]), ([True], good[1]), (good[0], "1"), ([1] * 62, [1])]:
            with self.subTest(value=value):
                self.assert_bool(is_shares(poly, other, value), False)
                self.assert_bool(is_shares(poly=poly, other=other, value=value), False)
        for value in NOT_POLYS:
            self.assert_bool(is_shares(poly, other, (value, good[1])), False)
            self.assert_bool(is_shares(poly, other, (good[0], value)), False)
            self.assert_bool(is_shares(poly, other, value), False)
        self.assert_bool(is_shares([2], [4], ([Ratio(1, 2)], [1])), False)

    def test_a_multiple_of_the_common_part_is_none(self):
        self.assert_bool(is_shares([0, 1], [1, 1], ([0, -1], [0, 1])), False)
        self.assert_bool(is_shares([0, 1], [1, 1], ([-1], [1])), True)
        self.assert_bool(is_shares([0, 1], [1, 1], ([1], [])), False)


class SquareTest(Checks):
    def test_made_of_known_parts(self):
        source = source_of(15)
        for _ in range(60):
            base = told(some_poly(source, source.randint(0, 4)))
            if degree(common(base, derived(base))) > 0:
                continue
            part = some_poly(source, source.randint(0, 3))
            part = scaled(part, Ratio(1).over(told(part)[-1]))
            poly = times(base, times(part, part))
            self.assertEqual(self.assert_pure(square_part, poly), part)
            self.assertEqual(self.assert_pure(odd_part, poly), base)
            self.assert_bool(has_square(poly), degree(part) > 0)

    def test_powers(self):
        for many in range(0, 21):
            poly = [Ratio(-5, 3)]
            for _ in range(many):
                poly = times(poly, [2, 1])
            part = [Ratio(1)]
            for _ in range(many // 2):
                part = times(part, [2, 1])
            self.assertEqual(square_part(poly), part)
            self.assertEqual(odd_part(poly), scaled([2, 1] if many % 2 else [1], Ratio(-5, 3)))
            self.assert_bool(has_square(poly), many > 1)

    def test_several_powers_at_once(self):
        poly = [3]
        for factor, many in [([0, 1], 5), ([1, 1], 4), ([-2, 1], 3), ([1, 0, 1], 2), ([1, 1, 1], 1)]:
            for _ in range(many):
                poly = times(poly, factor)
        part = [1]
        for factor in [[0, 1], [0, 1], [1, 1], [1, 1], [-2, 1], [1, 0, 1]]:
            part = times(part, factor)
        self.assertEqual(square_part(poly), part)
        self.assertEqual(odd_part(poly), scaled(times(times([0, 1], [-2, 1]), [1, 1, 1]), 3))

    def test_numbers(self):
        for poly in [[7], (Ratio(-1, 3), 0), [1] + [0] * 60]:
            self.assertEqual(square_part(poly), ONE)
            self.assertEqual(odd_part(poly), told(poly))
            self.assert_bool(has_square(poly), False)

    def test_61_numbers(self):
        source = source_of(16)
        part = told(some_poly(source, 30))
        part = scaled(part, Ratio(1).over(part[-1]))
        self.assertEqual(square_part(times(part, part)), part)
        self.assertEqual(odd_part(times(part, part)), ONE)
        self.assertEqual(square_part([0] * 60 + [5]), [Ratio(0)] * 30 + ONE)
        self.assert_bool(has_square([1] * 61), False)
        self.assert_bool(has_square([0, 0] + [1] * 59), True)

    def test_odd_parts_have_no_square(self):
        source = source_of(17)
        for _ in range(40):
            first, second = some_poly(source, 2, 2, 1), some_poly(source, 3, 2, 1)
            poly = times(times(first, first), times(second, [some_number(source, 5), 1]))
            odd, part = odd_part(poly), square_part(poly)
            self.assert_bool(has_square(odd), False)
            self.assertEqual(times(odd, times(part, part)), poly)
            self.assertEqual(odd[-1], poly[-1])
            self.assertEqual(part[-1], Ratio(1))


class WrongTest(Checks):
    def test_wrong_polynomials(self):
        for function in [common, shares]:
            for name in ["poly", "other"]:
                self.assert_refuses(function, {"poly": [1], "other": (2, 1)}, name, InvalidPoly, NOT_POLYS)
            self.assert_sequence(function, [("poly", [None], InvalidPoly), ("other", {}, InvalidPoly)])
        for name in ["poly", "other"]:
            good = {"poly": [1], "other": (2, 1), "value": ([1], [])}
            self.assert_refuses(is_shares, good, name, InvalidPoly, NOT_POLYS)
        wrong = [("poly", [None], InvalidPoly), ("other", {}, InvalidPoly), ("value", None, None)]
        self.assert_sequence(is_shares, wrong)
        self.assert_sequence(is_shares, [("poly", "x", InvalidPoly), ("other", [1], None), ("value", None, None)])
        for function in [square_part, odd_part, has_square]:
            self.assert_refuses(function, {"poly": [1]}, "poly", InvalidPoly, NOT_POLYS)

    def test_nought(self):
        for function in [square_part, odd_part, has_square]:
            for nought in NOUGHTS:
                self.assert_error(NoughtPoly, {}, function, nought)
                self.assert_error(NoughtPoly, {}, function, poly=nought)
