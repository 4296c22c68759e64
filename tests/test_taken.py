"""rootsround.taken: what polynomials sum up to, and what is left of others."""

from rootsround.errors import InvalidPoly, InvalidRoot, TooMany
from rootsround.polys import degree, plus, scaled
from rootsround.ratios import Ratio
from rootsround.roots import Root
from rootsround.taken import summed_up, taken_off
from tests.helpers import NOT_POLYS, NOT_ROOTS, Checks, frac, frac_plus, fracs, ratios, some_poly, some_root, source_of
from tests.own import own_sum

KNOT = Root([0, -2, 0, 0, 1])
LIMIT = {"what": "degree", "limit": 30}


class SummedTest(Checks):
    def test_against_fractions(self):
        source = source_of(151)
        for _ in range(80):
            root = some_root(source)
            first, second = some_poly(source, source.randint(-1, 10)), some_poly(source, source.randint(-1, 14))
            found = self.assert_pure(summed_up, root, first, second)
            self.assert_told(found)
            self.assertEqual(found, ratios(frac_plus(own_sum(root, first), fracs(second))))

    def test_degrees_and_heads(self):
        source = source_of(152)
        for _ in range(40):
            root, first = some_root(source), some_poly(source, source.randint(0, 30))
            found, many = summed_up(root, first, []), degree(first)
            self.assertEqual(degree(found), 2 * root.half - 1 + many)
            self.assertEqual(frac(found[-1]), (root.half + many) * fracs(first)[-1] * fracs(root.poly())[-1])

    def test_it_is_the_slope_of_s_times_the_root(self):
        # by a difference at x = 10, where D is above 0
        root, poly = Root([1, 0, 0, 0, 1]), [2, 0, 3]
        at, step = 10.0, 1e-5

        def value(x):
            return (2 + 3 * x * x) * (1 + x ** 4) ** 0.5

        slope = (value(at + step) - value(at - step)) / (2 * step)
        found = sum(float(frac(number)) * at ** place for place, number in enumerate(summed_up(root, poly, [])))
        self.assertAlmostEqual(slope / (found / (1 + at ** 4) ** 0.5), 1, places=6)

    def test_degrees_30_and_31(self):
        for root in [Root([1, 0, 1]), Root([1] + [0] * 7 + [1])]:
            self.assertEqual(degree(summed_up(root, [0] * 30 + [1], [1] * 31)), 29 + root.degree)
            self.assertEqual(degree(summed_up(root, [0] * 30 + [1] + [0] * 30, [])), 29 + root.degree)
            for first, second in [([0] * 31 + [1], []), ([], [0] * 31 + [1]), ([1] * 61, [1] * 61), ([1], (2,) * 32)]:
                self.assert_error(TooMany, LIMIT, summed_up, root, first, second)
                self.assert_error(TooMany, LIMIT, summed_up, second=second, first=first, root=root)

    def test_noughts(self):
        for nought in [[], (), [0], (Ratio(0), 0), [0] * 61]:
            self.assertEqual(summed_up(KNOT, nought, nought), [])
            self.assertEqual(summed_up(KNOT, nought, (0, 5, 0)), [Ratio(0), Ratio(5)])
            self.assertEqual(summed_up(KNOT, (1, 0), nought), [Ratio(-1), Ratio(0), Ratio(0), Ratio(2)])

    def test_wrong_parameters(self):
        good = {"root": KNOT, "first": [1], "second": [2]}
        self.assert_refuses(summed_up, good, "root", InvalidRoot, NOT_ROOTS)
        self.assert_refuses(summed_up, good, "first", InvalidPoly, NOT_POLYS)
        self.assert_refuses(summed_up, good, "second", InvalidPoly, NOT_POLYS)
        self.assert_sequence(summed_up, [("root", 1, InvalidRoot), ("first", 2, None), ("second", 3, None)])
        wrong = [1] * 40 + [None]
        self.assert_error(InvalidPoly, {"value": wrong}, summed_up, KNOT, wrong, 7)
        self.assert_error(InvalidPoly, {"value": wrong}, summed_up, KNOT, [1] * 40, wrong)


class TakenTest(Checks):
    def test_against_fractions(self):
        source = source_of(153)
        for _ in range(80):
            root, poly = some_root(source), some_poly(source, source.randint(-1, 20))
            found = self.assert_pure(taken_off, root, poly)
            self.assertIs(found.__class__, tuple)
            for one in found:
                self.assert_told(one)
            taken, left = found
            self.assertEqual(frac_plus(own_sum(root, taken), fracs(left)), fracs(poly))
            self.assertLessEqual(degree(left), 2 * root.half - 2)
            self.assertEqual(summed_up(root, taken, left), ratios(poly))
            if degree(poly) <= 2 * root.half - 2:
                self.assertEqual(found, ([], ratios(poly)))
            else:
                self.assertEqual(degree(taken), degree(poly) - 2 * root.half + 1)

    def test_of_what_is_summed_up_nothing_is_left(self):
        source = source_of(154)
        for _ in range(40):
            root = some_root(source)
            first = some_poly(source, source.randint(-1, 12))
            left = some_poly(source, source.randint(-1, root.degree - 2))
            self.assertEqual(taken_off(root, summed_up(root, first, [])), (ratios(first), []))
            self.assertEqual(taken_off(root, summed_up(root, first, left)), (ratios(first), ratios(left)))

    def test_sums(self):
        source = source_of(155)
        for _ in range(30):
            root = some_root(source)
            first, second = some_poly(source, 12), some_poly(source, 9)
            one, other, both = taken_off(root, first), taken_off(root, second), taken_off(root, plus(first, second))
            self.assertEqual(both, (plus(one[0], other[0]), plus(one[1], other[1])))
            self.assertEqual(taken_off(root, scaled(first, Ratio(-2, 3))),
                             (scaled(one[0], Ratio(-2, 3)), scaled(one[1], Ratio(-2, 3))))

    def test_just_at_the_bound_of_what_is_left(self):
        for half in (1, 2, 3, 4):
            root = Root([1] + [0] * (2 * half - 1) + [9])
            self.assertEqual(taken_off(root, [0] * (2 * half - 2) + [5]), ([], ratios([0] * (2 * half - 2) + [5])))
            taken, left = taken_off(root, [0] * (2 * half - 1) + [5])
            self.assertEqual(taken, [Ratio(5, 9 * half)])
            self.assertEqual(left, [])

    def test_degrees_30_and_31(self):
        for root in [Root([1, 0, 1]), Root([1] + [0] * 7 + [1])]:
            taken, left = taken_off(root, [1] * 31)
            self.assertEqual(degree(taken), 31 - root.degree)
            self.assertEqual(summed_up(root, taken, left), [Ratio(1)] * 31)
            self.assertEqual(taken_off(root, [1] * 31 + [0] * 30), (taken, left))
            for wrong in [[0] * 31 + [1], [1] * 61, (0,) * 60 + (Ratio(1, 2),)]:
                self.assert_error(TooMany, LIMIT, taken_off, root, wrong)
                self.assert_error(TooMany, LIMIT, taken_off, poly=wrong, root=root)

    def test_noughts(self):
        for nought in [[], (), [0], (Ratio(0), 0), [0] * 61]:
            self.assertEqual(taken_off(KNOT, nought), ([], []))

    def test_wrong_parameters(self):
        good = {"root": KNOT, "poly": [1, 2]}
        self.assert_refuses(taken_off, good, "root", InvalidRoot, NOT_ROOTS)
        self.assert_refuses(taken_off, good, "poly", InvalidPoly, NOT_POLYS)
        self.assert_sequence(taken_off, [("root", None, InvalidRoot), ("poly", [None], None)])
        self.assert_sequence(taken_off, [("root", None, InvalidRoot), ("poly", [1] * 40, None)])
        wrong = [1] * 40 + [True]
        self.assert_error(InvalidPoly, {"value": wrong}, taken_off, KNOT, wrong)
