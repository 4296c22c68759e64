"""rootsround.pairs: roots that are made of pairs of polynomials."""

from fractions import Fraction

from rootsround.errors import InvalidPoly, NotApart, NoughtPoly, NumberAlone, TooMany, WrongDegree
from rootsround.pairs import made_pair
from rootsround.polys import times
from rootsround.ratios import Ratio
from rootsround.roots import Root
from rootsround.units import unit_number
from tests.helpers import NOT_POLYS, frac_plus, frac_times, fracs, ratios, some_poly, source_of
from tests.own import frac_divided, own_slope
from tests.test_makes import NOUGHTS, MadeChecks, cheb, common_of

LIMIT = {"what": "degree", "limit": 12}


def sides(many):
    """The g and h of degree (many - 1) / 2 with g g and h h in what an odd power tells, less 1 and 1 more."""
    found = []
    for number in (-1, 1):
        squared, rest = frac_divided(frac_plus(cheb(many), [Fraction(number)]), [Fraction(number), Fraction(1)])
        assert rest == []
        found.append(common_of(squared, own_slope(squared)))
    return found


class PairTest(MadeChecks):
    def check(self, first, second):
        found = self.assert_pure(made_pair, first, second)
        self.assertIs(found.__class__, tuple)
        root, unit = found
        self.assertIs(unit.__class__, tuple)
        for half in unit:
            self.assert_told(half)
        self.check_root(root, unit[0], unit[1], 1)
        self.assertEqual(unit_number(root, unit), Ratio(1))
        # v h h - u g g is 2, v of a degree below that of g g
        g, h, p = fracs(first), fracs(second), fracs(unit[0])
        upper, rest = frac_divided(frac_plus(p, [Fraction(1)]), frac_times(h, h))
        self.assertEqual(rest, [])
        self.assertLess(len(upper), len(g) * 2 - 1)
        lower, rest = frac_divided(frac_plus(p, [Fraction(-1)]), frac_times(g, g))
        self.assertEqual(rest, [])
        # q is g h w, u v is D w w
        part, rest = frac_divided(fracs(unit[1]), frac_times(g, h))
        self.assertEqual((rest, part[-1]), ([], 1))
        self.assertEqual(frac_times(upper, lower), frac_times(fracs(root.poly()), frac_times(part, part)))
        self.assertEqual(made_pair(second=second, first=first), found)
        return root, part

    def test_the_document(self):
        root, unit = made_pair([0, 1], [1, 1, 1])
        self.assertEqual(root, Root([-4, -8, 20, 16, 16]))
        self.assertEqual(unit, (ratios([1, 0, -2, -8, -6, -4]), ratios([0, 1, 1, 1])))
        self.check([0, 1], [1, 1, 1])

    def test_any_pairs(self):
        source = source_of(251)
        met = []
        for one, other in [(1, 1), (1, 2), (2, 1), (1, 3), (2, 2), (3, 1), (1, 4), (2, 3), (3, 2), (4, 1)]:
            for _ in range(4):
                first, second = some_poly(source, one, 5, 2), some_poly(source, other, 5, 2)
                if len(common_of(fracs(first), fracs(second))) > 1:
                    self.assert_error(NotApart, {}, made_pair, first, second)
                    continue
                root, part = self.check(first, second)
                met.append(root.degree == 2 * (one + other) - 2)
        self.assertGreater(met.count(True), 30)

    def test_with_a_square_part(self):
        # of the ninth power: a factor of g or h is left out, so it stands in u or v
        line, cube = [Fraction(1, 2), Fraction(1)], [Fraction(-1, 8), Fraction(-3, 4), Fraction(0), Fraction(1)]
        lesser, greater = sides(9)
        if frac_divided(lesser, cube)[1]:
            cube = [one * (-1) ** (at + 1) for at, one in enumerate(cube)]
        self.assertEqual(frac_divided(lesser, cube), (line, []))
        for first, second, size in [(lesser, greater, 0), (cube, greater, 1), ([3 * one for one in cube], greater, 1)]:
            root, part = self.check(ratios(first), ratios(second))
            self.assertEqual((root.degree, len(part) - 1), (2, size))
        opposite = frac_divided(greater, [Fraction(-1, 2), Fraction(1)])
        self.assertEqual(opposite[1], [])
        root, part = self.check(ratios(lesser), ratios(opposite[0]))
        self.assertEqual((root.degree, part), (2, [Fraction(-1, 2), 1]))

    def test_to_the_greatest_degree(self):
        for many in (3, 5, 7, 9, 11, 13):
            first, second = sides(many)
            root, part = self.check(ratios(first), tuple(ratios(second)) + (0,))
            self.assertEqual((root.degree, part), (2, [1]))
            root, part = self.check([one * Ratio(-2, 3) for one in ratios(second)], ratios(first))
            self.assertEqual((root.degree, part), (2, [1]))

    def test_wrong_degrees(self):
        source = source_of(252)
        for one, other in [(3, 3), (1, 5), (5, 1), (2, 4), (6, 6), (1, 11), (11, 1)]:
            self.assert_error(WrongDegree, {}, made_pair, some_poly(source, one), some_poly(source, other))

    def test_not_apart(self):
        for first, second in [([0, 1], [0, 1]), ([0, 1], (0, -2, 0)), ([-1, 0, 1], [1, 1]),
                              ([1, 2, 1], [-1, 0, 0, 0, 1]), ([0, 0, 0, 1], [0, 5, 1]),
                              (times([1, 0, 1], [3, 1]), times([1, 0, 1], [4, 1]))]:
            self.assert_error(NotApart, {}, made_pair, first, second)
        # ahead of the wrong degree, behind the limit
        self.assert_error(NotApart, {}, made_pair, [0] * 6 + [1], [0] * 6 + [1])
        self.assert_error(TooMany, LIMIT, made_pair, [0] * 7 + [1], [0] * 6 + [1])

    def test_nought_numbers_and_limits(self):
        for nought in NOUGHTS:
            for other in ([1], [0, 1], [], [0] * 60 + [1]):
                self.assert_error(NoughtPoly, {}, made_pair, nought, other)
                self.assert_error(NoughtPoly, {}, made_pair, other, nought)
        for number in ([1], (Ratio(-1, 2), 0), [3, 0, 0]):
            for other in ([1], [0, 1], [0] * 60 + [1]):
                self.assert_error(NumberAlone, {}, made_pair, number, other)
                self.assert_error(NumberAlone, {}, made_pair, other, number)
        for first, second in [([0, 1], [1] * 13), ([1] * 13, [0, 1]), ([1] * 8, [0] * 6 + [1]), ([1] * 61, [1] * 61)]:
            self.assert_error(TooMany, LIMIT, made_pair, first, second)
        self.assert_error(WrongDegree, {}, made_pair, [2, 1, 0], [1] * 12)

    def test_wrong_parameters(self):
        for first, second in [([0, 1], [1, 1]), ([], [1]), ([0, 1], [0, 1]), ([1] * 50, [1] * 50)]:
            good = {"first": first, "second": second}
            self.assert_refuses(made_pair, good, "first", InvalidPoly, NOT_POLYS)
            self.assert_refuses(made_pair, good, "second", InvalidPoly, NOT_POLYS)
        self.assert_sequence(made_pair, [("first", None, InvalidPoly), ("second", 5, None)])
