"""rootsround.integrals: integrals in finite terms, and reasons why there is none."""

from rootsround.errors import InvalidPoly, InvalidRoot, TooMany
from rootsround.integrals import integral, is_integral, is_why, why_none
from rootsround.polys import degree, plus, scaled
from rootsround.ratios import Ratio
from rootsround.roots import Root
from rootsround.taken import taken_off
from tests.helpers import (NOT_INTEGERS, NOT_NUMBERS, NOT_POLYS, NOT_ROOTS, Checks, Sub, frac, frac_plus, frac_times,
                           fracs, ratios, some_poly, some_root, source_of)
from tests.own import (FAR_ROUND, NEVER, frac_divided, mod_degree, own_least, own_norm, own_slope, own_sum, root_of,
                       round_roots)
from tests.test_rests import TOO_LONG
from tests.test_units import NOT_UNITS
from tests.test_verdicts import STEPS, TOO_FEW, kept, own_verdict

KNOT, NEVER_ONE = Root([0, -2, 0, 0, 1]), Root([1, 1, 0, 0, 1])
UNIT = ([-1, 0, 0, 1], [0, 1])
PAPER = (3, 7, 5, 9)
LIMIT = {"what": "degree", "limit": 30}
ALL = (integral, why_none)


def logs_of(root, many):
    """The least unit and its log polynomial, by Fractions."""
    p, q, _, _ = own_least(root, many)
    return (ratios(p), ratios(q)), frac_divided(own_slope(p), q)[0]


def big_enough(found):
    """Whether a value is within the limits of point [2] for what is OPEN."""
    if isinstance(found, (list, tuple)):
        return len(found) <= 400 and all(big_enough(one) for one in found)
    if isinstance(found, Ratio):
        return max(abs(found.top), found.bottom) < 10 ** 2000
    return True


class IntegralTest(Checks):
    def check_integral(self, root, poly):
        """Just one of both is told, and the judges let it; what is told is reckoned again."""
        found, reason = self.assert_pure(integral, root, poly), self.assert_pure(why_none, root, poly)
        self.assertEqual([found, reason].count(None), 1)
        self.assertTrue(big_enough(found) and big_enough(reason))
        if found is None:
            self.check_reason(root, poly, reason)
            return None
        self.assertIs(found.__class__, tuple)
        taken, number, unit = found
        self.assert_told(taken)
        self.assertIs(number.__class__, Ratio)
        wanted = own_sum(root, taken)
        self.assertEqual(unit is None, number == Ratio(0))
        if unit is not None:
            self.assertIs(unit.__class__, tuple)
            for half in unit:
                self.assert_told(half)
            self.assertEqual(len(own_norm(root, *unit)), 1)
            logs, rest = frac_divided(own_slope(fracs(unit[0])), fracs(unit[1]))
            self.assertEqual(rest, [])
            wanted = frac_plus(wanted, frac_times(fracs([number]), logs))
        self.assertEqual(wanted, fracs(poly))
        self.assert_bool(is_integral(root, poly, found), True)
        self.assert_bool(is_integral(value=found, poly=poly, root=root), True)
        return found

    def check_reason(self, root, poly, reason):
        self.assertIs(reason.__class__, tuple)
        word, told = reason
        left = degree(taken_off(root, poly)[1])
        if word == "degree":
            self.assertTrue(root.half <= left <= 2 * root.half - 2)
        elif word == "low":
            self.assertTrue(0 <= left <= root.half - 2)
        else:
            self.assertEqual(left, root.half - 1)
            self.assertIn(word, ("never", "uneven"))
        if word == "never":
            prime, own, other, found = told
            self.assertEqual([mod_degree(root, prime), mod_degree(root, other)], [own, found])
            self.assertNotEqual(own, found)
        else:
            self.assertIs(told.__class__, int)
        self.assert_bool(is_why(root, poly, reason), True)
        self.assert_bool(is_why(value=reason, poly=poly, root=root), True)

    def test_integrals_without_a_logarithm(self):
        source = source_of(171)
        for _ in range(40):
            root, taken = some_root(source), some_poly(source, source.randint(-1, 10))
            poly = ratios(own_sum(root, taken))
            self.assertEqual(self.check_integral(root, poly), (ratios(taken), Ratio(0), None))

    def test_integrals_with_a_logarithm(self):
        source = source_of(172)
        for root, many, _, _ in round_roots():
            _, logs = logs_of(root, many)
            for _ in range(3):
                taken = some_poly(source, source.randint(-1, 6))
                number = frac(Ratio(source.choice([-5, -2, 1, 3]), source.randint(1, 6)))
                poly = ratios(frac_plus(own_sum(root, taken), [number * one for one in logs]))
                found = self.check_integral(root, poly)
                self.assertEqual(found[0], ratios(taken))

    def test_any_polynomials(self):
        source = source_of(173)
        words = set()
        for _ in range(120):
            root = source.choice([row[0] for row in round_roots()] + [root_of(text) for text in NEVER])
            taken = some_poly(source, source.randint(-1, 5))
            left = some_poly(source, source.randint(-1, 2 * root.half - 2))
            poly = ratios(frac_plus(own_sum(root, taken), fracs(left)))
            if self.check_integral(root, poly) is None:
                words.add(why_none(root, poly)[0])
        self.assertEqual(words, {"degree", "low", "never", "uneven"})

    def test_each_degree_of_what_is_left(self):
        source = source_of(174)
        for text, many in [("0 1 0 0 0 0 0 0 1", 7), ("-2 0 -1 0 2 0 1", 4), ("0 -2 0 0 1", 3), ("1 1 0 0 1", None),
                           ("-7 0 1", 1), ("3 1 -2 0 0 0 1", None), ("2 1 0 1 0 0 0 0 25/4", None)]:
            root = root_of(text)
            for size in range(-1, 2 * root.half - 1):
                left = some_poly(source, size)
                reason = why_none(root, left)
                if size == root.half - 1 and many is None:
                    self.assertEqual(reason[0], "never")
                elif size != root.half - 1:
                    wanted = None if size < 0 else ("degree" if size >= root.half else "low", size)
                    self.assertEqual(reason, wanted)
                self.check_integral(root, left)

    def test_degree_2_always_has_one(self):
        source = source_of(175)
        for _ in range(30):
            root, poly = some_root(source, (2,)), some_poly(source, source.randint(-1, 9))
            self.assertIsNotNone(self.check_integral(root, poly))
            self.assertIsNone(why_none(root, poly))

    def test_uneven_places(self):
        for root, many, _, _ in round_roots():
            if root.half == 1:
                continue
            _, logs = logs_of(root, many)
            for at in range(root.half - 1):
                spoiled = [3 * one for one in logs]
                spoiled[at] += 1
                poly = ratios(spoiled)
                self.assertEqual(why_none(root, poly), ("uneven", at))
                self.assertIsNone(integral(root, poly))
                for place in range(-1, root.half + 1):
                    self.assert_bool(is_why(root, poly, ("uneven", place)), place == at)
            self.assertIsNone(why_none(root, ratios(logs)))
            for place in range(root.half):
                self.assert_bool(is_why(root, ratios(logs), ("uneven", place)), False)

    def test_degrees_30_and_31(self):
        for root in (KNOT, Root([1, 0, 1]), Root([1] + [0] * 7 + [1]), NEVER_ONE):
            self.check_integral(root, [1] * 31)
            self.check_integral(root, (Ratio(1, 3),) * 31 + (0,) * 30)
            for wrong in [[0] * 31 + [1], [1] * 61, (0,) * 60 + (Ratio(1, 2),)]:
                for function in ALL:
                    self.assert_error(TooMany, LIMIT, function, root, wrong)
                    self.assert_error(TooMany, LIMIT, function, poly=wrong, root=root)
                for function in (is_integral, is_why):
                    self.assert_error(TooMany, LIMIT, function, root, wrong, None)
                    self.assert_error(TooMany, LIMIT, function, value=("low", 0), poly=wrong, root=root)

    def test_limits_where_the_verdict_is_wanted(self):
        rows = [(root_of(row[0]), TOO_FEW) for row in FAR_ROUND]
        rows.append((Root([1, -1, -2, -4, 0, 4, -3, -2, 1]), STEPS))
        for root, told in rows:
            for size in range(-1, 2 * root.half - 1):
                left = [0] * size + [2] if size >= 0 else []
                if size == root.half - 1:
                    for function in ALL:
                        self.assert_error(TooMany, told, function, root, left)
                        self.assert_error(TooMany, LIMIT, function, root, [1] * 32)
                else:
                    self.check_integral(root, left)

    def test_never_papers_that_are_not_found(self):
        root = Root([-3, -2, -4, -3, 2, 3, 2, -2, 1])
        self.assertEqual(own_verdict(root), (None, STEPS))
        self.assertIsNone(integral(root, [0, 0, 0, 1]))
        self.assert_error(TooMany, STEPS, why_none, root, [0, 0, 0, 1])
        self.check_integral(root, [0, 0, 1])

    def test_wrong_parameters(self):
        good = {"root": KNOT, "poly": [1, 2]}
        for function in ALL:
            self.assert_refuses(function, good, "root", InvalidRoot, NOT_ROOTS)
            self.assert_refuses(function, good, "poly", InvalidPoly, NOT_POLYS)
            self.assert_sequence(function, [("root", None, InvalidRoot), ("poly", [None], None)])
        good["value"] = None
        for function in (is_integral, is_why):
            self.assert_refuses(function, good, "root", InvalidRoot, NOT_ROOTS)
            self.assert_refuses(function, good, "poly", InvalidPoly, NOT_POLYS)
            self.assert_sequence(function, [("root", None, InvalidRoot), ("poly", [None], None), ("value", None, None)])
            wrong = [1] * 40 + ["x"]
            self.assert_error(InvalidPoly, {"value": wrong}, function, KNOT, wrong, ("low", 0))


class IsIntegralTest(Checks):
    POLY = [-1, 3, 0, 2]

    def test_integrals_of_one_polynomial(self):
        square = ([1, 0, 0, -4, 0, 0, 2], [0, -2, 0, 0, 2])
        for value in [([1], 1, UNIT), ((1, 0), Ratio(1), ((-1, 0, 0, 1, 0), (0, Ratio(1)))),
                      ([Ratio(1)], -1, ([-1, 0, 0, 1], [0, -1])), ([1], 1, ([-5, 0, 0, 5], [0, 5])),
                      ([1], Ratio(1, 2), square), ([1], Ratio(-1, 2), ([1, 0, 0, -4, 0, 0, 2], [0, 2, 0, 0, -2])),
                      ([Sub(1)], Sub(1), UNIT)]:
            self.assert_bool(is_integral(KNOT, self.POLY, value), True)
            self.assert_bool(is_integral(KNOT, tuple(self.POLY) + (0,), value), True)
            self.assert_bool(is_integral(KNOT, plus(self.POLY, [1]), value), False)

    def test_numbers_of_nought(self):
        poly = [-1, 0, 0, 2]
        for value, wanted in [(([1], 0, None), True), (([1], Ratio(0), None), True), (([1], 0, UNIT), False),
                              (([1], 0, []), False), (([1], 0, False), False), (([1], 0, 0), False),
                              (([1], 1, None), False), (([2], 0, None), False), (([], 0, None), False),
                              (([1], 1, UNIT), False)]:
            self.assert_bool(is_integral(KNOT, poly, value), wanted)
        self.assert_bool(is_integral(KNOT, [], ([], 0, None)), True)
        self.assert_bool(is_integral(KNOT, [0], ((0,), Ratio(0), None)), True)
        self.assert_bool(is_integral(KNOT, [], ([], 1, UNIT)), False)

    def test_values_of_all_kinds(self):
        good = ([1], 1, UNIT)
        wrong = NOT_INTEGERS + [list(good), good[:2], good + (1,), (good,), ([1], 1, list(UNIT)), ([2], 1, UNIT),
                                ([1], 2, UNIT), ([1], -1, UNIT), ([1, 1], 1, UNIT), ([1], 1, ([0, 1], [1]))]
        for value in wrong:
            self.assert_bool(is_integral(KNOT, self.POLY, value), False)
        for value in NOT_POLYS:
            self.assert_bool(is_integral(KNOT, self.POLY, (value, 1, UNIT)), False)
        for value in NOT_NUMBERS:
            self.assert_bool(is_integral(KNOT, self.POLY, ([1], value, UNIT)), False)
        for value in NOT_UNITS:
            self.assert_bool(is_integral(KNOT, self.POLY, ([1], 1, value)), False)

    def test_great_s(self):
        self.assert_bool(is_integral(KNOT, self.POLY, ([1] + [0] * 59 + [1], 1, UNIT)), False)
        self.assert_bool(is_integral(KNOT, self.POLY, ([1] + [0] * 60, 1, UNIT)), True)

    def test_units_of_all_places(self):
        for root, many, _, _ in round_roots()[::4]:
            pair, logs = logs_of(root, many)
            turned = pair[0], scaled(pair[1], -1)
            poly = ratios([2 * one for one in logs])
            self.assert_bool(is_integral(root, poly, ([], 2, pair)), True)
            self.assert_bool(is_integral(root, poly, ([], -2, turned)), True)
            self.assert_bool(is_integral(root, poly, ([], 2, turned)), False)
            self.assert_bool(is_integral(root, poly, ([], 1, pair)), False)

    def test_no_verdict_is_wanted(self):
        for row in FAR_ROUND:
            root = root_of(row[0])
            pair, logs = logs_of(root, row[1])
            self.assert_bool(is_integral(root, ratios(logs), ([], 1, pair)), True)
            self.assert_bool(is_integral(root, ratios(logs), ([], 1, None)), False)


class IsWhyTest(Checks):
    def test_degrees(self):
        source = source_of(176)
        for half in (1, 2, 3, 4):
            root = Root([1] + [0] * (2 * half - 1) + [1])
            for size in range(-1, 2 * half - 1):
                left = some_poly(source, size)
                poly = ratios(frac_plus(own_sum(root, [1, 2]), fracs(left)))
                for place in range(-2, 2 * half + 2):
                    wanted = place == size
                    self.assert_bool(is_why(root, poly, ("degree", place)), wanted and size >= half)
                    self.assert_bool(is_why(root, poly, ("low", place)), wanted and 0 <= size <= half - 2)
                    self.assert_bool(is_why(root, poly, ("degree", Sub(place))), wanted and size >= half)

    def test_never_papers(self):
        for size in range(3):
            poly = [0] * size + [1]
            self.assert_bool(is_why(NEVER_ONE, poly, ("never", PAPER)), True)
            self.assert_bool(is_why(NEVER_ONE, poly, ("never", (5, 9, 7, 4))), True)
            for paper in [(3, 7, 5, 8), (3, 7, 3, 7), list(PAPER), None, (2, 7, 5, 9), (3, 7, 5), "x", (3, 7, 5, True)]:
                self.assert_bool(is_why(NEVER_ONE, poly, ("never", paper)), False)
        for nought in ([], [0], ratios(own_sum(NEVER_ONE, [1, 5]))):
            self.assert_bool(is_why(NEVER_ONE, nought, ("never", PAPER)), False)
        self.assert_bool(is_why(KNOT, [1], ("never", (5, 3, 7, 4))), False)

    def test_values_of_all_kinds(self):
        poly = [5, 3, 0, 2]
        self.assert_bool(is_why(KNOT, poly, ("uneven", 0)), True)
        wrong = NOT_INTEGERS + [["uneven", 0], ("uneven",), ("uneven", 0, 0), (("uneven", 0),), ("Uneven", 0),
                                ("uneven", False), ("uneven", Ratio(0)), ("uneven", None), ("uneven", [0]),
                                ("uneven", 1),
                                ("uneven", -1), ("uneven", "0"), ("even", 0), ("", 0), (0, "uneven"), (None, 0),
                                (["uneven"], 0), ("degree", 1), ("low", 1), ("degree", 2), ("low", 0), ("never", PAPER),
                                (b"uneven", 0), ("uneven ", 0), ({}, 0), (object(), 0), "un", ("never", ("uneven", 0))]
        for value in wrong:
            self.assert_bool(is_why(KNOT, poly, value), False)
        for value in [("degree", True), ("degree", Ratio(2)), ("degree", [2]), ("low", 2), ("degree", "2")]:
            self.assert_bool(is_why(KNOT, [0, 0, 1], value), False)
        for value in [("low", False), ("low", Ratio(0)), ("degree", 0), ("low", None)]:
            self.assert_bool(is_why(KNOT, [1], value), False)
        self.assert_bool(is_why(KNOT, [1], ("low", 0)), True)
        self.assert_bool(is_why(KNOT, (0, 0, 1, 0), ("degree", 2)), True)
        self.assert_bool(is_why(NEVER_ONE, [0, 1], ("uneven", 0)), False)

    def test_limits_of_uneven(self):
        """The verdict is wanted just where k is a place, and what is left has the degree d - 1."""
        rows = [(root_of(row[0]), TOO_FEW) for row in FAR_ROUND]
        rows.append((Root([1, -1, -2, -4, 0, 4, -3, -2, 1]), STEPS))
        for root, told in rows:
            left = [0] * (root.half - 1) + [1]
            for place in range(root.half - 1):
                self.assert_error(TooMany, told, is_why, root, left, ("uneven", place))
                self.assert_error(TooMany, told, is_why, value=("uneven", place), root=root, poly=left)
            for place in [-1, root.half - 1, root.half, 10 ** 30, True, False, None, Ratio(0), "0"]:
                self.assert_bool(is_why(root, left, ("uneven", place)), False)
            for other in [[], [1], left + [1], left + [0, 1], left[1:]]:
                self.assert_bool(is_why(root, other, ("uneven", 0)), False)

    def test_limits_of_never(self):
        for poly, prime, _, _ in TOO_LONG:
            root = Root(poly)
            other = [one for one in kept(root, 4) if one != prime and mod_degree(root, one) is not None][0]
            paper = (prime, 5, other, 6)
            for size in range(root.half + 1):
                self.assert_error(TooMany, STEPS, is_why, root, [0] * size + [3], ("never", paper))
            for nought in ([], [0, 0], ratios(own_sum(root, [2, 0, 1]))):
                self.assert_bool(is_why(root, nought, ("never", paper)), False)
            self.assert_bool(is_why(root, [1], ("never", (prime, 5, other, 5))), False)
            self.assert_bool(is_why(root, [1], ("low", 0)), True)

    def test_nothing_is_changed(self):
        for function, value in [(is_integral, ([1], 1, ([-1, 0, 0, 1], [0, 1]))), (is_why, ("uneven", 0))]:
            self.assert_pure_judge(function, KNOT, [-1, 3, 0, 2], value)

    def assert_pure_judge(self, function, root, poly, value):
        kept_poly, kept_value = repr(poly), repr(value)
        function(root, poly, value)
        self.assertEqual((repr(poly), repr(value)), (kept_poly, kept_value))
