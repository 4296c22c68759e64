"""rootsround.rests: rests modulo primes, rest degrees and rest units."""

from itertools import product

from rootsround.errors import BottomNought, InvalidPoly, InvalidPrime, InvalidRoot, NotKept, TooMany
from rootsround.primes import keeps, kept_primes
from rootsround.ratios import Ratio
from rootsround.rests import is_rest_unit, rest_degree, rest_unit, rests_of
from rootsround.roots import Root
from tests.helpers import NOT_INTEGERS, NOT_POLYS, NOT_ROOTS, Checks, Sub, frac, some_poly, some_root, source_of
from tests.own import (NEVER, mod_chain, mod_degree, mod_norm, mod_part, mod_times, own_least, rests,
                       root_of, round_roots)
from tests.test_primes import NOT_PRIMES, PRIMES

HOOK = Root([0, 1, 0, 0, 1])
# tuples of D, a prime, behind how many steps a Q is a number, and the rest degree
LONG = [([3, 0, 3, 1, -1, -3, 2, 3, 1], 13, 600, 658), ([-1, 1, -1, -3, 3, 3, 1], 23, 600, 627)]
TOO_LONG = [([2, 0, 0, -3, -3, 1, 1], 23, 601, 629), ([-2, -1, 2, 2, 0, 2, 2, 1, 1], 11, 601, 668)]
DEGREE_150 = [([0, 1, -3, -1, 3, -1, 1], 29), ([3, 3, 2, -3, 1, -2, -3, 3, 1], 11)]
DEGREE_151 = [([3, 3, -2, 1, -2, -3, -1, 2, 1], 13), ([2, -3, -1, -1, -1, -2, 1], 31)]
STEPS = {"what": "steps", "limit": 600}


def some_kept(source, degrees=(2, 4, 6, 8), most=30):
    """A Root and a prime that keeps it."""
    while True:
        root, prime = some_root(source, degrees), source.choice([one for one in PRIMES if one < most])
        if keeps(root, prime):
            return root, prime


class RestsOfTest(Checks):
    def test_against_own_reckoning(self):
        source = source_of(131)
        for _ in range(150):
            poly, prime = some_poly(source, source.randint(-1, 12), 40, 20), source.choice(PRIMES[:6] + [9973])
            if any(frac(number).denominator % prime == 0 for number in poly):
                self.assert_error(BottomNought, {}, rests_of, poly, prime)
                continue
            found = self.assert_pure(rests_of, poly, prime)
            self.assertIs(found.__class__, list)
            self.assertEqual(found, rests(poly, prime))
            for number, own in zip(found, poly):
                self.assertIs(number.__class__, int)
                self.assertTrue(0 <= number < prime)
                self.assertEqual((frac(own).numerator - number * frac(own).denominator) % prime, 0)

    def test_noughts_at_the_end(self):
        self.assertEqual(rests_of([1, 5, 10, Ratio(15, 2)], 5), [1])
        self.assertEqual(rests_of([0, 3, 9], 3), [])
        self.assertEqual(rests_of([], 3), [])
        self.assertEqual(rests_of((0, Ratio(0)), 3), [])
        self.assertEqual(rests_of([3, 1, 0, 3, 0], 3), [0, 1])
        self.assertEqual(rests_of([-1] * 61, 9973), [9972] * 61)
        self.assertEqual(rests_of(poly=(Ratio(3, 2), Ratio(4, 1)), prime=Sub(7)), [5, 4])

    def test_bottoms(self):
        for poly in [[Ratio(1, 5)], [1, 2, Ratio(3, 10), 0], [Ratio(-1, 25), 1]]:
            self.assert_error(BottomNought, {}, rests_of, poly, 5)
            self.assert_error(BottomNought, {}, rests_of, prime=5, poly=poly)
        self.assertEqual(rests_of([Ratio(5, 1), Ratio(10, 5)], 5), [0, 2])

    def test_wrong_parameters(self):
        good = {"poly": [1, 2], "prime": 3}
        self.assert_refuses(rests_of, good, "poly", InvalidPoly, NOT_POLYS)
        self.assert_refuses(rests_of, good, "prime", InvalidPrime, NOT_PRIMES)
        self.assert_sequence(rests_of, [("poly", None, InvalidPoly), ("prime", 9, None)])
        self.assert_error(InvalidPrime, {"value": 9}, rests_of, [Ratio(1, 9)], 9)


class RestDegreeTest(Checks):
    def test_against_own_chains(self):
        source = source_of(132)
        for _ in range(50):
            root, prime = some_kept(source, (2, 4, 6, 8), 14)
            wanted = mod_degree(root, prime)
            if wanted is None:
                self.assert_error(TooMany, STEPS, rest_degree, root, prime)
                continue
            found = self.assert_pure(rest_degree, root, prime)
            self.assertIs(found.__class__, int)
            self.assertEqual(found, wanted)
            self.assertGreaterEqual(found, root.half)
            self.assertEqual(found == root.half, len(rests(root.rest(), prime)) == 1)
            self.assertLessEqual(found, (1 + prime ** 0.5) ** (2 * root.half - 2) + 0.001)

    def test_the_document(self):
        root = Root([1, 1, 0, 0, 1])
        self.assertEqual([rest_degree(root, prime) for prime in (3, 5, 7, 11, 13)], [7, 9, 4, 15, 6])

    def test_degree_2(self):
        source = source_of(133)
        for _ in range(30):
            root, prime = some_kept(source, (2,), 10000)
            self.assertEqual(rest_degree(root, prime), 1)

    def test_round_roots_have_one_degree(self):
        for root, many, _, _ in round_roots():
            for prime in kept_primes(root, 6) + kept_primes(root, 24)[-1:]:
                self.assertEqual(rest_degree(root, prime), many)

    def test_no_lesser_degree(self):
        source = source_of(134)
        for _ in range(12):
            root, _ = some_kept(source, (2, 4), 4)
            if keeps(root, 3):
                self.check_least(root, 3, rest_degree(root, 3))

    def check_least(self, root, prime, wanted):
        """All polynomials with heads as the rest unit's: none of a lesser degree is a unit."""
        head = mod_times([1], rests(root.nearest()[-1:], prime), prime)
        for size in range(root.half, min(wanted, 5)):
            for numbers in product(range(prime), repeat=size):
                first = list(numbers) + head
                for others in product(range(prime), repeat=size - root.half):
                    self.assertGreater(len(mod_norm(root, prime, first, list(others) + [1])), 1)

    def test_600_steps_and_601(self):
        for poly, prime, steps, degree in LONG:
            self.assertEqual(len(mod_chain(Root(poly), prime, 700)), steps)
            self.assertEqual(rest_degree(Root(poly), prime), degree)
        for poly, prime, steps, _ in TOO_LONG:
            self.assertEqual(len(mod_chain(Root(poly), prime, 700)), steps)
            self.assert_error(TooMany, STEPS, rest_degree, Root(poly), prime)
            self.assert_error(TooMany, STEPS, rest_unit, Root(poly), prime)
        self.assert_error(TooMany, STEPS, rest_degree, Root([1, 1, 0, 0, 0, 1, 0, 0, 1]), 9967)


class RestUnitTest(Checks):
    def check_unit(self, root, prime):
        found = self.assert_pure(rest_unit, root, prime)
        self.assertIs(found.__class__, tuple)
        first, second = found
        for half in found:
            self.assertIs(half.__class__, list)
            self.assertTrue(all(number.__class__ is int and 0 <= number < prime for number in half))
        norm = mod_norm(root, prime, first, second)
        self.assertEqual(len(norm), 1)
        self.assertNotEqual(norm[0], 0)
        self.assertEqual([second[-1]], [1])
        self.assertEqual(first[-1:], rests(root.nearest()[-1:], prime))
        self.assertEqual([len(first) - 1, len(second) - 1],
                         [rest_degree(root, prime), rest_degree(root, prime) - root.half])
        self.assert_bool(is_rest_unit(root, prime, found), True)
        top, bottom = mod_part(mod_chain(root, prime, 600), prime)
        inverse = [pow(bottom[-1], -1, prime)]
        self.assertEqual(found, (mod_times(inverse, top, prime), mod_times(inverse, bottom, prime)))

    def test_against_own_chains(self):
        source = source_of(135)
        for _ in range(40):
            root, prime = some_kept(source, (2, 4, 6), 14)
            if (mod_degree(root, prime) or 200) <= 150:
                self.check_unit(root, prime)

    def test_round_roots(self):
        for root, many, _, _ in round_roots():
            p, q, _, _ = own_least(root, many)
            for prime in kept_primes(root, 4):
                self.check_unit(root, prime)
                self.assertEqual(rest_unit(root, prime), (rests(p, prime), rests(q, prime)))

    def test_degrees_150_and_151(self):
        for poly, prime in DEGREE_150:
            self.assertEqual(mod_degree(Root(poly), prime), 150)
            self.check_unit(Root(poly), prime)
        for poly, prime in DEGREE_151 + [row[:2] for row in LONG]:
            self.assert_error(TooMany, {"what": "degree", "limit": 150}, rest_unit, Root(poly), prime)
        self.assertEqual([rest_degree(Root(poly), prime) for poly, prime in DEGREE_151], [151, 151])

    def test_wrong_parameters(self):
        good = {"root": HOOK, "prime": 5}
        for function in (rest_degree, rest_unit):
            self.assert_refuses(function, good, "root", InvalidRoot, NOT_ROOTS)
            self.assert_refuses(function, good, "prime", InvalidPrime, NOT_PRIMES)
            self.assert_sequence(function, [("root", [1, 0, 1], InvalidRoot), ("prime", 3, None)])
            self.assert_error(NotKept, {}, function, HOOK, 3)
            self.assert_error(NotKept, {}, function, prime=3, root=HOOK)
            self.assert_error(NotKept, {}, function, root_of("1 1/7 0 0 1"), 7)
            self.assert_error(NotKept, {}, function, root_of("1 1 0 0 49/4"), 7)


class IsRestUnitTest(Checks):
    def test_units_times_numbers(self):
        source = source_of(136)
        for _ in range(30):
            root, prime = some_kept(source, (2, 4), 12)
            if mod_degree(root, prime, 80) is None:
                continue
            first, second = rest_unit(root, prime)
            for factor in (1, 2, -1, prime + 1, -prime - 2):
                value = [factor * number for number in first], [-factor * number for number in second]
                self.assert_bool(is_rest_unit(root, prime, value), factor % prime != 0)
                longer = tuple(value[0] + [prime, 0]), value[1] + [-prime]
                self.assert_bool(is_rest_unit(root, prime, longer), factor % prime != 0)
            self.assert_bool(is_rest_unit(root, prime, ([prime * number for number in first], second)), False)
            self.assert_bool(is_rest_unit(root, prime, (first, [prime * number for number in second])), False)

    def test_any_values(self):
        source = source_of(137)
        told = []
        for _ in range(400):
            root, prime = some_kept(source, (2,), 6)
            value = [source.randint(-9, 9) for _ in range(2)], [source.randint(-9, 9) for _ in range(1)]
            first, second = [[number % prime for number in half] for half in value]
            norm = mod_norm(root, prime, rests(first, prime), rests(second, prime))
            wanted = len(norm) == 1 and rests(second, prime) != []
            told.append(wanted)
            self.assert_bool(is_rest_unit(root, prime, value), wanted)
        self.assertEqual(set(told), {True, False})

    def test_400_numbers(self):
        good = [3, 0, 0, 1] + [0] * 396, [0, 1] + [5] * 398
        self.assertEqual([len(half) for half in good], [400, 400])
        self.assert_bool(is_rest_unit(HOOK, 5, good), True)
        self.assert_bool(is_rest_unit(HOOK, 5, (good[0] + [0], good[1])), False)
        self.assert_bool(is_rest_unit(HOOK, 5, (good[0], good[1] + [0])), False)
        self.assert_bool(is_rest_unit(HOOK, 5, ([1] * 400, [1] * 398)), False)

    def test_values_of_all_kinds(self):
        good = [3, 0, 0, 1], [0, 1]
        self.assert_bool(is_rest_unit(HOOK, 5, good), True)
        self.assert_bool(is_rest_unit(value=(tuple(good[0]), (0, Sub(1))), prime=5, root=HOOK), True)
        wrong = NOT_INTEGERS + [list(good), good + ([1],), good[:1], (good,), ([], []), ([1], []), ([1], [0]),
                                ([1], [5]),
                                ([3, 0, 0, True], [0, 1]), ([3, False, 0, 1], [0, 1]), ([3, 0, 0, Ratio(1)], [0, 1]),
                                ([3, 0, 0, 1], [0, Ratio(1)]), ([3, 0, 0, None], [0, 1]), ("3001", "01"), (None, None),
                                ([3, 0, 0, 1], 1), (1, [0, 1]), ([3, 0, 0, 1], {0, 1}), ({3: 1}, [0, 1]), ([], [1]),
                                ([[3], 0, 0, 1], [0, 1])]
        for value in wrong:
            self.assert_bool(is_rest_unit(HOOK, 5, value), False)
        kept = list(good[0]), list(good[1])
        is_rest_unit(HOOK, 5, good)
        self.assertEqual(good, kept)

    def test_wrong_parameters(self):
        good = {"root": HOOK, "prime": 5, "value": ([3, 0, 0, 1], [0, 1])}
        self.assert_refuses(is_rest_unit, good, "root", InvalidRoot, NOT_ROOTS)
        self.assert_refuses(is_rest_unit, good, "prime", InvalidPrime, NOT_PRIMES)
        self.assert_sequence(is_rest_unit, [("root", None, InvalidRoot), ("prime", 3, None), ("value", 1, None)])
        for value in [None, good["value"], ([1], [])]:
            self.assert_error(NotKept, {}, is_rest_unit, HOOK, 3, value)

    def test_roots_that_never_come_round(self):
        for text in NEVER:
            root = root_of(text)
            for prime in kept_primes(root, 2):
                if mod_degree(root, prime) is not None and mod_degree(root, prime) <= 150:
                    self.assert_bool(is_rest_unit(root, prime, rest_unit(root, prime)), True)
