"""rootsround.inner: roots with a polynomial put in, and told roots."""

from fractions import Fraction

from rootsround.errors import (
    InvalidMany, InvalidPoly, InvalidRoot, InvalidUnit, NumberAlone, TooMany, WrongDegree)
from rootsround.inner import put_root, told_root, unit_put
from rootsround.least import place_of
from rootsround.ratios import Ratio
from rootsround.roots import Root
from rootsround.units import unit_number
from rootsround.verdicts import is_round, round_degree, round_unit
from tests.helpers import (
    NOT_INTEGERS, NOT_POLYS, NOT_ROOTS, Sub, frac, frac_plus, frac_times, fracs, ratios, some_number, some_poly,
    some_root, source_of)
from tests.own import NEVER, frac_divided, own_least, own_norm, root_of, round_roots
from tests.test_makes import MadeChecks, cheb, common_of, is_free
from tests.test_units import NOT_UNITS, PLUS_ONE, UNIT

LIMIT = {"what": "degree", "limit": 60}


def put(outer, inner):
    """The Fractions' polynomial with the other one in the place of x."""
    result = []
    for number in reversed(outer):
        result = frac_plus(frac_times(result, inner), [number] if number else [])
    return result


class PutRootTest(MadeChecks):
    def check(self, root, poly):
        found = self.assert_pure(put_root, root, poly)
        self.assertIs(found.__class__, tuple)
        made, part = found
        self.assertIs(made.__class__, Root)
        self.assert_told(part)
        self.assertEqual(part[-1], Ratio(1))
        body = fracs(made.poly())
        self.assertTrue(is_free(body))
        wanted = put(fracs(root.poly()), fracs(poly))
        self.assertEqual(frac_times(body, frac_times(fracs(part), fracs(part))), wanted)
        self.assertEqual(put_root(poly=poly, root=root), found)
        return made, part

    def test_without_a_square_part(self):
        source = source_of(261)
        for degrees, most in [((2,), 4), ((4,), 2), ((6, 8), 1)]:
            for many in range(1, most + 1):
                for _ in range(8):
                    root = some_root(source, degrees)
                    made, part = self.check(root, some_poly(source, many, 5, 3))
                    self.assertEqual(made.degree + 2 * (len(part) - 1), root.degree * many)

    def test_with_square_parts(self):
        # the polynomials of powers put into x x - 1 are it times squares
        base = Root([-1, 0, 1])
        for many in range(1, 31):
            made, part = put_root(base, ratios(cheb(many)))
            self.assertEqual((made.degree, len(part)), (2, many))
            self.assertEqual(frac_times(fracs(made.poly()), frac_times(fracs(part), fracs(part))),
                             frac_plus(frac_times(cheb(many), cheb(many)), [Fraction(-1)]))
        for text, poly, degree, size in [("0 -2 0 0 1", [0, 0, 1], 6, 1), ("0 1 0 0 1", [0, 0, 0, 2], 10, 1),
                                         ("-1 0 1", [-1, 0, 2], 2, 1), ("0 -1 1", [0, 0, 1], 2, 1),
                                         ("0 2 1", [0, 0, 0, 0, 1], 4, 2), ("-4 0 1", [-2, 0, 1], 2, 1)]:
            root = root_of(text)
            if degree > 8:
                self.assert_error(WrongDegree, {}, put_root, root, poly)
                continue
            made, part = self.check(root, poly)
            self.assertEqual((made.degree, len(part) - 1), (degree, size))

    def test_the_document(self):
        self.assertEqual(put_root(Root([-1, 0, 1]), [-1, 0, 2]), (Root([-4, 0, 4]), ratios([0, 1])))
        self.assertEqual(put_root(told_root(2), [0, 0, 1])[0].degree, 8)

    def test_round_exactly_if_the_root_is(self):
        source = source_of(262)
        for root, many, _, _ in round_roots()[::2]:
            if root.degree <= 4 and many <= 4:
                poly = some_poly(source, 1 if root.degree == 4 else 2, 3, 2)
                made, part = self.check(root, poly)
                degree = round_degree(made)
                self.assertEqual(degree % many, 0)
                self.assertEqual(many * (len(fracs(poly)) - 1) % degree, 0)
                if len(part) == 1:
                    self.assertEqual(degree, many * (len(fracs(poly)) - 1))
        for text in NEVER[:4]:
            made, _ = self.check(root_of(text), [1, -3])
            self.assertFalse(is_round(made))
        made, _ = self.check(root_of(NEVER[0]), [0, 0, 1])
        self.assertFalse(is_round(made))

    def test_wrong_degrees_and_limits(self):
        source = source_of(263)
        for size, many in [(2, 5), (2, 30), (4, 3), (4, 15), (6, 2), (6, 10), (8, 2), (8, 7)]:
            root = some_root(source, (size,))
            poly = [some_number(source, 5, 2) for _ in range(many)] + [1]
            made = put(fracs(root.poly()), fracs(poly))
            self.assertEqual(len(common_of(made, [Fraction(1)])), 1)
            self.assert_error(WrongDegree, {}, put_root, root, poly)
        for size, many in [(2, 31), (4, 16), (6, 11), (8, 8), (2, 60), (8, 60)]:
            self.assert_error(TooMany, LIMIT, put_root, some_root(source, (size,)), [0] * many + [1])
        for number in ([], [0], (0, 0), [1], (Ratio(5, 3), 0), [0] * 61):
            self.assert_error(NumberAlone, {}, put_root, PLUS_ONE, number)

    def test_wrong_parameters(self):
        for poly in ([0, 1], [1], [0] * 60 + [1]):
            good = {"root": PLUS_ONE, "poly": poly}
            self.assert_refuses(put_root, good, "root", InvalidRoot, NOT_ROOTS)
            self.assert_refuses(put_root, good, "poly", InvalidPoly, NOT_POLYS)
        self.assert_sequence(put_root, [("root", None, InvalidRoot), ("poly", 5, None)])


class UnitPutTest(MadeChecks):
    def check(self, root, unit, poly):
        found = self.assert_pure(unit_put, root, unit, poly)
        self.assertIs(found.__class__, tuple)
        self.assertEqual(len(found), 2)
        made, part = put_root(root, poly)
        number = own_norm(root, unit[0], unit[1])[0]
        self.assertEqual(fracs(found[0]), put(fracs(unit[0]), fracs(poly)))
        self.assertEqual(fracs(found[1]), frac_times(put(fracs(unit[1]), fracs(poly)), fracs(part)))
        for half in found:
            self.assert_told(half)
        self.assertEqual(own_norm(made, found[0], found[1]), [number])
        self.assertEqual(frac(unit_number(made, found)), number)
        self.assertEqual(unit_put(poly=poly, unit=unit, root=root), found)
        return made, found

    def test_units(self):
        source = source_of(264)
        for root, many, _, _ in round_roots():
            p, q, _, _ = own_least(root, many)
            for degree in range(1, 8 // root.degree + 1):
                poly = some_poly(source, degree, 4, 2)
                for unit in [(ratios(p), ratios(q)), (tuple([-3 * one for one in ratios(p)]) + (0,),
                                                      [3 * one for one in ratios(q)])]:
                    made, found = self.check(root, unit, poly)
                if len(found[0]) - 1 <= 8 and made.degree > 2:
                    self.assertEqual((len(found[0]) - 1) % round_degree(made), 0)

    def test_the_degree_is_the_product(self):
        for many in (2, 3, 4, 5):
            root = told_root(many)
            made, found = self.check(root, round_unit(root), [1, 0, 3])
            self.assertEqual(place_of(made, found)[1], 1)
            self.assertEqual(len(found[0]) - 1, 2 * many)

    def test_with_square_parts(self):
        base, unit = Root([-1, 0, 1]), ([0, 1], [1])
        for many in range(1, 31):
            poly = ratios(cheb(many))
            found = unit_put(base, unit, poly)
            self.assertEqual(found[0], poly)
            self.assertEqual(own_norm(put_root(base, poly)[0], found[0], found[1]), [1])
        found = unit_put(told_root(3), ([-1, 0, 0, 1], [0, 1]), [0, 2])
        self.assertEqual(found, (ratios([-1, 0, 0, 8]), ratios([0, 2])))

    def test_limits(self):
        base = Root([-1, 0, 1])
        for many, degree in [(1, 30), (2, 30), (3, 20), (30, 2), (12, 5), (60, 1)]:
            lead = cheb(many)
            side, rest = frac_divided(frac_plus(frac_times(lead, lead), [Fraction(-1)]), [Fraction(-1), 0, Fraction(1)])
            self.assertEqual(rest, [])
            half = common_of(side, [at * one for at, one in enumerate(side)][1:]) if many > 1 else side
            head = lead[-1] / half[-1]
            unit = ratios(lead), ratios([head * one for one in half])
            self.assertEqual(len(unit_put(base, unit, ratios(cheb(degree)))[0]) - 1, many * degree)
            for greater in (60 // max(many, 2) + 1, 60):
                self.assert_error(TooMany, LIMIT, unit_put, base, unit, [0] * greater + [1])
        self.assert_error(TooMany, LIMIT, unit_put, told_root(2), ([0, 0, 1], [1]), [0] * 16 + [1])
        self.assert_error(WrongDegree, {}, unit_put, told_root(2), ([0, 0, 1], [1]), [0] * 15 + [1])
        self.assert_error(WrongDegree, {}, unit_put, PLUS_ONE, UNIT, [3, 1, 0, 0, 0, 1])
        for number in ([], [0], (7, 0), [Ratio(1, 2)]):
            self.assert_error(NumberAlone, {}, unit_put, PLUS_ONE, UNIT, number)

    def test_wrong_parameters(self):
        for poly in ([0, 1], [1], [0] * 60 + [1]):
            good = {"root": PLUS_ONE, "unit": UNIT, "poly": poly}
            self.assert_refuses(unit_put, good, "root", InvalidRoot, NOT_ROOTS)
            self.assert_refuses(unit_put, good, "unit", InvalidUnit, NOT_UNITS)
            self.assert_refuses(unit_put, good, "poly", InvalidPoly, NOT_POLYS)
        self.assert_sequence(unit_put, [("root", None, InvalidRoot), ("unit", None, None), ("poly", 5, None)])
        self.assert_error(InvalidUnit, {"value": None}, unit_put, PLUS_ONE, None, None)


class ToldRootTest(MadeChecks):
    def test_told_roots(self):
        quadratics = frac_times(fracs([2, -4, 1]), fracs([-5, -2, 1]))
        cubic = frac_times(fracs([-1, 2]), fracs([1, 4, 3, 2]))
        for many, poly in [(2, [1, 0, 0, 0, 1]), (3, [0, -2, 0, 0, 1]), (4, quadratics), (5, cubic)]:
            root = self.assert_pure(told_root, many)
            self.assertEqual(root, Root(ratios(poly)))
            self.assertEqual(told_root(many=Sub(many)), root)
            self.assertEqual(root.degree, 4)
            self.assertEqual(round_degree(root), many)
            p, q, _, _ = own_least(root, many)
            self.assertEqual((ratios(p), ratios(q)), round_unit(root))

    def test_wrong_parameters(self):
        self.assert_refuses(told_root, {"many": 2}, "many", InvalidMany,
                            NOT_INTEGERS + [0, 1, 6, -2, 7, 100, Ratio(2), Ratio(3), -3, 10 ** 20])
