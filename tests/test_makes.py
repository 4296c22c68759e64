"""rootsround.makes: roots that are made of polynomials."""

from fractions import Fraction

from rootsround.errors import InvalidNumber, InvalidPoly, NoughtPoly, NumberAlone, TooMany, WrongDegree
from rootsround.least import place_of
from rootsround.makes import line_root, made_by
from rootsround.polys import put_in, times
from rootsround.ratios import Ratio
from rootsround.roots import Root
from rootsround.units import is_unit, unit_number
from rootsround.verdicts import round_degree
from tests.helpers import (
    NOT_NUMBERS, NOT_POLYS, Checks, Sub, frac, frac_plus, frac_times, fracs, ratio, ratios, some_number, some_poly,
    source_of)
from tests.own import frac_divided, numbers_of, own_least, own_norm, own_product, own_slope, round_roots

NOUGHTS = [[], (), [0], (0, Ratio(0)), [0] * 61]
LIMIT = {"what": "degree", "limit": 24}


def common_of(first, second):
    """A common part of Fractions' polynomials, by Euclid."""
    while second:
        first, second = second, frac_divided(first, second)[1]
        first = [one / first[-1] for one in first]
    return first


def is_free(poly):
    """Whether Fractions' polynomial has no square part."""
    return len(common_of(poly, own_slope(poly))) == 1


def cheb(many):
    """The polynomial that the document tells for powers: t, 2 t t - 1, ..; beyond t it is 1 at 1."""
    ahead, last = [Fraction(1)], [Fraction(0), Fraction(1)]
    for _ in range(many - 1):
        ahead, last = last, frac_plus([Fraction(0)] + [2 * one for one in last], [-one for one in ahead])
    return last


class MadeChecks(Checks):
    def check_root(self, root, first, second, number):
        """p p - c is D q q, D without a square part."""
        p, q = fracs(first), fracs(second)
        self.assertIs(root.__class__, Root)
        self.assert_told(second)
        body = fracs(root.poly())
        self.assertEqual(frac_plus(frac_times(p, p), [-number]), frac_times(body, frac_times(q, q)))
        self.assertTrue(is_free(body))
        self.assertEqual(own_norm(root, first, second), [number])
        self.assertTrue(is_unit(root, (first, second)))


class MadeByTest(MadeChecks):
    def check(self, poly, number):
        root, second = found = self.assert_pure(made_by, poly, number)
        self.assertIs(found.__class__, tuple)
        self.check_root(root, poly, second, frac(number))
        self.assertEqual(second[-1], Ratio(1))
        self.assertEqual(root.poly()[-1], ratio(fracs(poly)[-1] ** 2))
        self.assertEqual(made_by(number=number, poly=poly), found)
        return found

    def test_any_polynomials(self):
        source = source_of(241)
        for degree in range(1, 5):
            for _ in range(25):
                number = some_number(source)
                while frac(number) == 0:
                    number = some_number(source)
                poly = some_poly(source, degree)
                root, second = self.check(poly, number)
                self.assertEqual(root.degree + 2 * (len(second) - 1), 2 * degree)

    def test_first_halves_of_units_make_their_roots(self):
        met = set()
        for root, many, _, _ in round_roots():
            p, q, _, _ = own_least(root, many)
            number = ratio(own_norm(root, ratios(p), ratios(q))[0])
            met.add(len(p) - 1)
            self.assertEqual(self.check(ratios(p), number), (root, ratios(q)))
            # a number times it makes the root scaled
            poly = [one * Ratio(-2, 3) for one in ratios(p)]
            scaled, second = made_by(tuple(poly) + (0,), number * Ratio(4, 9))
            self.assertEqual(second, ratios(q))
            self.assertEqual(scaled.poly(), [one * Ratio(4, 9) for one in root.poly()])
        self.assertEqual(met, {1, 2, 3, 4, 5, 6, 7, 8, 9, 10, 12})

    def test_powers(self):
        for root, many, _, _ in round_roots()[::3]:
            p, q, _, _ = own_least(root, many)
            unit = p, q
            for times_taken in range(2, 24 // many + 1):
                unit = own_product(root, unit, (p, q))
                first, second = ratios(unit[0]), ratios(unit[1])
                number = ratio(own_norm(root, first, second)[0])
                made, part = made_by(first, number)
                self.assertEqual(part, [one.over(second[-1]) for one in second])
                self.assertEqual(made.poly(), [one * second[-1] * second[-1] for one in root.poly()])
                self.assertEqual(round_degree(made), many)
                self.assertEqual(place_of(made, (first, part))[1], times_taken)

    def test_to_the_greatest_degree(self):
        for many in range(1, 25):
            root, second = made_by(ratios(cheb(many)), 1)
            self.assertEqual(root.degree, 2)
            self.assertEqual(len(second), many)
            self.check_root(root, ratios(cheb(many)), second, 1)
        inner = [Ratio(1, 3), 1, -1, 2, 5]
        for many in range(2, 7):
            poly = put_in(ratios(cheb(many)), inner)
            root, second = self.check(poly, 1)
            self.assertEqual(root.degree, 8)

    def test_numbers_above_and_below_0(self):
        for number in [1, 4, Ratio(1, 4), 2, Ratio(2, 9), -1, -4, Ratio(-1, 4), -3, Ratio(-2, 9), Ratio(5), Sub(7)]:
            for text in ["0 1", "0 0 1", "3 0 -2", "1 2 3 4", "0 0 0 1", "0 -3 0 4", "1 0 0 0 2", "1 0 -8 0 8"]:
                self.check(numbers_of(text), number)

    def test_square_parts(self):
        self.assertEqual(made_by([-1, 0, 0, 1], 1), (Root([0, -2, 0, 0, 1]), [Ratio(0), Ratio(1)]))
        self.assertEqual(made_by([0, 1], -1), (Root([1, 0, 1]), [Ratio(1)]))
        self.assertEqual(made_by([-2, 0, 1], 4), (Root([-4, 0, 1]), [Ratio(0), Ratio(1)]))
        self.assertEqual(made_by([-2, 0, 1, 0], 3), (Root([1, 0, -4, 0, 1]), [Ratio(1)]))
        self.assertEqual(made_by((2, 0, 0, 0, 3), 4)[0], Root([12, 0, 0, 0, 9]))

    def test_wrong_degrees(self):
        source = source_of(242)
        for degree in list(range(5, 13)) + [20, 24]:
            poly = some_poly(source, degree)
            self.assert_error(WrongDegree, {}, made_by, poly, 3)
        self.assert_error(WrongDegree, {}, made_by, [3, 0, 0, 0, 0, 1], 1)
        self.assert_error(WrongDegree, {}, made_by, [0] * 24 + [1], 1)
        # of degree 5, but with a square part
        self.assertEqual(made_by([1, 0, 0, 0, 0, 1], 1)[0].degree, 6)
        self.assertEqual(made_by([1, 0, 0, 0, 1, 1], 1)[0].degree, 6)

    def test_limits(self):
        for poly in ([0] * 25 + [1], [1] * 61, (0,) * 30 + (Ratio(1, 2), 0)):
            self.assert_error(TooMany, LIMIT, made_by, poly, 1)
            self.assert_error(InvalidNumber, {"value": 0}, made_by, poly, 0)
        for poly in NOUGHTS + [[1], (Ratio(1, 2), 0), [-5, 0, 0]]:
            self.assert_error(NumberAlone, {}, made_by, poly, 1)

    def test_wrong_parameters(self):
        for poly in ([0, 1], [1], [0] * 25 + [1]):
            good = {"poly": poly, "number": 1}
            self.assert_refuses(made_by, good, "poly", InvalidPoly, NOT_POLYS)
            self.assert_refuses(made_by, good, "number", InvalidNumber, NOT_NUMBERS + [0, Ratio(0), Sub(0)])
        self.assert_sequence(made_by, [("poly", None, InvalidPoly), ("number", None, None)])
        self.assert_sequence(made_by, [("poly", [True], InvalidPoly), ("number", 0, None)])


class LineRootTest(MadeChecks):
    def check(self, first, second):
        found = self.assert_pure(line_root, first, second)
        self.assertIs(found.__class__, tuple)
        root, unit = found
        self.assertIs(unit.__class__, tuple)
        self.assertEqual(len(unit), 2)
        for half in unit:
            self.assert_told(half)
        v, h = fracs(first), fracs(second)
        lead = frac_plus(frac_times(v, frac_times(h, h)), [Fraction(-1)])
        self.assertEqual(fracs(unit[0]), lead)
        self.check_root(root, unit[0], unit[1], 1)
        self.assertEqual(unit_number(root, unit), Ratio(1))
        part, rest = frac_divided(fracs(unit[1]), h)
        self.assertEqual((rest, part[-1]), ([], 1))
        self.assertEqual(frac(root.poly()[-1]), (v[-1] * h[-1]) ** 2)
        # v (v h h - 2) is D g g
        left = frac_times(v, frac_plus(lead, [Fraction(-1)]))
        self.assertEqual(left, frac_times(fracs(root.poly()), frac_times(part, part)))
        self.assertEqual(line_root(second=second, first=first), found)
        return root, part

    def test_any_lines(self):
        source = source_of(243)
        for v_degree, h_degree in [(0, 1), (0, 2), (0, 3), (0, 4), (1, 0), (1, 1), (1, 2), (1, 3), (2, 0), (2, 1),
                                   (2, 2), (3, 0), (3, 1), (4, 0)]:
            for _ in range(6):
                root, part = self.check(some_poly(source, v_degree), some_poly(source, h_degree))
                self.assertEqual(root.degree + 2 * (len(part) - 1), 2 * v_degree + 2 * h_degree)

    def test_square_parts(self):
        # a square in v, one in v h h - 2, and one of both together
        for first, second, size in [([0, 0, 1, 1], [1], 1), ([0, 0, 1], [0, 1], 1), ([1, 1], [-1, 2], 1),
                                    ([1, 1], [1, -4, -4, 8], 3), ([0, 0, 0, 2], [5], 1), ([4, 4, 1], [1], 1),
                                    ([2], [0, 1], 0), ([2, 2], [-1, 2, 0], 0), ([Ratio(1, 2)], [0, 4], 0)]:
            root, part = self.check(first, second)
            self.assertEqual(len(part) - 1, size)
        self.assertEqual(self.check([0, 1], (0, 1, 0))[0], Root([0, -2, 0, 0, 1]))
        self.assertEqual(self.check([1], [0, 2])[0], Root([-2, 0, 4]))
        self.assertEqual(line_root([0, 1], [0, 1])[1], (ratios([-1, 0, 0, 1]), ratios([0, 1])))

    def test_to_the_greatest_degree(self):
        # the polynomials of powers, and 1 more, are x + 1 times a square for odd powers, twice a square for even ones
        for many in range(1, 25):
            lead = frac_plus(cheb(many), [Fraction(1)])
            line = [Fraction(1), Fraction(1)] if many % 2 == 1 else [Fraction(2)]
            squared, rest = frac_divided(lead, line)
            side = common_of(squared, own_slope(squared)) if len(squared) > 1 else squared
            self.assertEqual(rest, [])
            head = squared[-1] / side[-1] ** 2
            line = [one * head for one in line]
            root, part = self.check(ratios(line), ratios(side))
            self.assertEqual(root.degree, 2)
            self.assertEqual(len(part) - 1, (many - 1) // 2)

    def test_wrong_degrees(self):
        source = source_of(244)
        for v_degree, h_degree in [(5, 0), (0, 5), (3, 2), (1, 4), (24, 0), (0, 12), (2, 11), (8, 8)]:
            self.assert_error(WrongDegree, {}, line_root, some_poly(source, v_degree), some_poly(source, h_degree))

    def test_nought_numbers_and_limits(self):
        for nought in NOUGHTS:
            for other in ([1], [0, 1], [], [0] * 60 + [1]):
                self.assert_error(NoughtPoly, {}, line_root, nought, other)
                self.assert_error(NoughtPoly, {}, line_root, other, nought)
        for first, second in [([1], [1]), ((2, 0), (Ratio(1, 2),)), ([-1, 0, 0], [3])]:
            self.assert_error(NumberAlone, {}, line_root, first, second)
        for first, second in [([0] * 25 + [1], [1]), ([1], [0] * 13 + [1]), ([0, 1], [0] * 12 + [1]),
                              ([1] * 61, [1] * 61), ([1, 0, 1], [1] * 13), ([1] * 24, [0, 1, 0])]:
            self.assert_error(TooMany, LIMIT, line_root, first, second)
        self.assert_error(WrongDegree, {}, line_root, [1, 1, 0], [1] * 12)

    def test_wrong_parameters(self):
        for first, second in [([0, 1], [0, 1]), ([], []), ([1] * 50, [1] * 50)]:
            good = {"first": first, "second": second}
            self.assert_refuses(line_root, good, "first", InvalidPoly, NOT_POLYS)
            self.assert_refuses(line_root, good, "second", InvalidPoly, NOT_POLYS)
        self.assert_sequence(line_root, [("first", None, InvalidPoly), ("second", 5, None)])

    def test_products(self):
        # what is made along a line is made by its p, too
        source = source_of(245)
        for _ in range(15):
            first, second = some_poly(source, source.randint(1, 2)), some_poly(source, source.randint(0, 2))
            root, unit = line_root(first, second)
            made, part = made_by(unit[0], 1)
            head = unit[1][-1]
            self.assertEqual(times(part, [head]), unit[1])
            self.assertEqual(made.poly(), [one * head * head for one in root.poly()])
