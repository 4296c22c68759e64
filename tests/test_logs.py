"""rootsround.logs: log polynomials of units and of roots."""

from rootsround.errors import InvalidRoot, InvalidUnit, TooMany
from rootsround.logs import log_head, log_poly
from rootsround.polys import degree, derived, scaled, times
from rootsround.ratios import Ratio
from rootsround.roots import Root
from tests.helpers import NOT_ROOTS, Checks, frac_times, fracs, ratios
from tests.own import FAR_ROUND, NEVER, own_least, own_norm, own_product, own_slope, own_sum, root_of, round_roots
from tests.test_units import NOT_UNITS, PLUS_ONE, UNIT, rooted_units
from tests.test_verdicts import STEPS, TOO_FEW


class LogHeadTest(Checks):
    def test_q_times_it_is_p_derived(self):
        for root, units in rooted_units(161, 20):
            for first, second in units:
                found = self.assert_pure(log_head, root, (first, second))
                self.assert_told(found)
                self.assertEqual(frac_times(fracs(found), fracs(second)), own_slope(fracs(first)))
                self.assertEqual(degree(found), root.half - 1)
                sign = 1 if first[-1].sign == second[-1].sign else -1
                self.assertEqual(found[-1], root.nearest()[-1] * degree(first) * sign)

    def test_numbers_powers_and_contraries(self):
        for root, units in rooted_units(162, 20):
            single = log_head(root, units[0])
            for at, (first, second) in enumerate(units):
                power = (at // 2 + 1) * (1 if at % 2 == 0 else -1)
                self.assertEqual(log_head(root, (first, second)), scaled(single, power))
                self.assertEqual(log_head(root, (scaled(first, -7), scaled(second, -7))), scaled(single, power))
                self.assertEqual(log_head(root, (first, scaled(second, -1))), scaled(single, -power))

    def test_products_add(self):
        root, unit = Root([-1, 0, 1]), ([0, 1], [1])
        other = own_product(root, unit, unit)
        other = ratios(other[0]), ratios(other[1])
        self.assertEqual(log_head(root, other), scaled(log_head(root, unit), 2))

    def test_it_is_the_slope_of_the_logarithm(self):
        # times p + q root and times the root, both parts of the slope of that meet those of the log polynomial
        for root, many, _, _ in round_roots()[::4]:
            p, q, _, _ = own_least(root, many)
            found = fracs(log_head(root, (ratios(p), ratios(q))))
            self.assertEqual(own_slope(p), frac_times(found, q))
            self.assertEqual(own_sum(root, q), frac_times(found, p))

    def test_lists_tuples_and_noughts_at_the_end(self):
        self.assertEqual(log_head(PLUS_ONE, ((0, 3, 0), (Ratio(3), 0))), [Ratio(1)])
        self.assertEqual(log_head(unit=([0, 1], [-1, 0]), root=PLUS_ONE), [Ratio(-1)])

    def test_degree_60(self):
        root, pair = Root([-1, 0, 1]), ([0, 1], [1])
        unit = pair
        for _ in range(59):
            unit = own_product(root, unit, pair)
        self.assertEqual(log_head(root, (ratios(unit[0]), ratios(unit[1]))), [Ratio(60)])

    def test_wrong_parameters(self):
        good = {"root": PLUS_ONE, "unit": UNIT}
        self.assert_refuses(log_head, good, "root", InvalidRoot, NOT_ROOTS)
        self.assert_refuses(log_head, good, "unit", InvalidUnit, NOT_UNITS)
        self.assert_sequence(log_head, [("root", None, InvalidRoot), ("unit", 5, None)])


class LogPolyTest(Checks):
    def test_round_roots(self):
        for root, many, _, _ in round_roots():
            p, q, _, _ = own_least(root, many)
            self.assertEqual(len(own_norm(root, p, q)), 1)
            found = self.assert_pure(log_poly, root)
            self.assert_told(found)
            self.assertEqual(frac_times(fracs(found), q), own_slope(p))
            self.assertEqual(found[-1], root.nearest()[-1] * many)
            self.assertEqual(times(found, ratios(q)), derived(ratios(p)))

    def test_others(self):
        for text in NEVER:
            self.assertIsNone(log_poly(root_of(text)))
        for row in FAR_ROUND:
            self.assert_error(TooMany, TOO_FEW, log_poly, root_of(row[0]))
        self.assert_error(TooMany, STEPS, log_poly, Root([1, -1, -2, -4, 0, 4, -3, -2, 1]))

    def test_wrong_parameters(self):
        self.assert_refuses(log_poly, {"root": PLUS_ONE}, "root", InvalidRoot, NOT_ROOTS)
        self.assertEqual(log_poly(root=PLUS_ONE), [Ratio(1)])
