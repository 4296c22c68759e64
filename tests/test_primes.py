"""rootsround.primes: primes, and which of them keep a root."""

from itertools import product

from rootsround.errors import InvalidMany, InvalidPrime, InvalidRoot
from rootsround.moves import moved_root, scaled_root
from rootsround.polys import times
from rootsround.primes import is_prime, keeps, kept_primes
from rootsround.ratios import Ratio
from rootsround.roots import Root
from tests.helpers import NOT_INTEGERS, NOT_ROOTS, Checks, Sub, fracs, some_root, source_of
from tests.own import NEVER, is_square_free, mod_cut, mod_divided, mod_times, rests, root_of, round_roots

NOT_PRIMES = NOT_INTEGERS + [0, 1, -1, -3, 2, 4, 9, 15, 25, 49, 561, 9999, 9991, 10000, 10007, 99991, 10 ** 30 + 57, -7,
                             Ratio(3), Ratio(5), Ratio(7, 2), Sub(9), Sub(2), "3", [3], (3,)]
NOT_MANY = NOT_INTEGERS + [-1, 25, 26, 1000, Ratio(3), Ratio(1, 2), Sub(25), Sub(-1)]


def sieve(most):
    """All odd prime numbers below most."""
    left = [True] * most
    for number in range(2, most):
        for at in range(2 * number, most if left[number] else 0, number):
            left[at] = False
    return [number for number in range(3, most) if left[number]]


PRIMES = sieve(10000)


def own_keeps(root, prime):
    """Whether the prime keeps the root, by the words of [7]."""
    body = fracs(root.poly())
    if any(number.denominator % prime == 0 for number in body) or body[-1].numerator % prime == 0:
        return False
    return is_square_free(rests(root.poly(), prime), prime)


class PrimeTest(Checks):
    def test_all_numbers(self):
        known = set(PRIMES)
        self.assertEqual(len(PRIMES), 1228)
        for number in range(-20, 10100):
            self.assert_bool(is_prime(number), number in known)

    def test_values_of_all_kinds(self):
        for value in NOT_PRIMES:
            self.assert_bool(is_prime(value), False)
        for value in [3, 9973, Sub(5)]:
            self.assert_bool(is_prime(value), True)
        self.assert_bool(is_prime(value=7), True)


class KeepsTest(Checks):
    def test_against_own_reckoning(self):
        source = source_of(121)
        roots = [row[0] for row in round_roots()] + [root_of(text) for text in NEVER]
        roots += [some_root(source) for _ in range(30)]
        for root in roots:
            for prime in PRIMES[:12]:
                self.assert_bool(keeps(root, prime), own_keeps(root, prime))
            for prime in source.sample(PRIMES, 3):
                self.assert_bool(keeps(root, prime), own_keeps(root, prime))

    def test_against_all_squares_modulo_small_primes(self):
        source = source_of(122)
        told = set()
        for _ in range(60):
            root, prime = some_root(source, (2, 4)), source.choice([3, 5])
            if any(number.bottom % prime == 0 for number in root.poly()) or root.poly()[-1].top % prime == 0:
                self.assert_bool(keeps(root, prime), False)
                continue
            body = rests(root.poly(), prime)
            squares = []
            for size in range(1, root.half + 1):
                for numbers in product(range(prime), repeat=size):
                    part = list(numbers) + [1]
                    squares.append(mod_divided(body, mod_times(part, part, prime), prime)[1] == [])
            self.assert_bool(keeps(root, prime), not any(squares))
            told.add(any(squares))
        self.assertEqual(told, {True, False})

    def test_heads_bottoms_and_square_parts(self):
        self.assert_bool(keeps(Root([1, 0, 9]), 3), False)
        self.assert_bool(keeps(Root([1, 0, 9]), 5), True)
        self.assert_bool(keeps(Root([1, 0, Ratio(1, 25)]), 5), False)
        self.assert_bool(keeps(Root([Ratio(1, 25), 0, Ratio(1, 25)]), 5), False)
        self.assert_bool(keeps(Root([Ratio(3, 25), Ratio(1, 5), Ratio(4, 25)]), 5), False)
        self.assert_bool(keeps(Root([1, Ratio(1, 7), 1]), 7), False)
        self.assert_bool(keeps(Root([Ratio(7, 11), 1, 1]), 7), True)
        self.assert_bool(keeps(Root([Ratio(7, 11), 1, 1]), 11), False)
        self.assert_bool(keeps(Root([-7, 0, 1]), 7), False)
        self.assert_bool(keeps(Root([-7, 0, 1]), 9973), True)
        self.assert_bool(keeps(Root([9973, 0, 1]), 9973), False)
        self.assert_bool(keeps(Root([Ratio(1, 9973), 0, 1]), 9973), False)
        # modulo 5 it is (x x + 2) squared, as x x and - 3 come to it
        self.assert_bool(keeps(Root(times([2, 0, 1], [-3, 0, 1])), 5), False)
        self.assert_bool(keeps(Root(times([2, 0, 1], [-3, 0, 1])), 11), True)

    def test_derived_it_is_nought(self):
        # x ** 6 + 1 is the cube of x x + 1 modulo 3
        root = Root([1, 0, 0, 3, 0, 0, 1])
        self.assertEqual(mod_cut([at * number % 3 for at, number in enumerate([1, 0, 0, 0, 0, 0, 1])]), [])
        self.assert_bool(keeps(root, 3), False)
        self.assert_bool(keeps(Root([1, 1, 0, 0, 0, 0, 1]), 3), True)
        self.assert_bool(keeps(Root([2, 1, 0, 3, 0, 0, 4]), 3), own_keeps(Root([2, 1, 0, 3, 0, 0, 4]), 3))

    def test_moved_and_scaled(self):
        root = Root([0, 1, 0, 0, 1])
        for first, second, number in [(3, 1, 5), (Ratio(5, 7), 2, Ratio(11, 3)), (-1, Ratio(1, 13), 1)]:
            moved = scaled_root(moved_root(root, first, second), number)
            for prime in PRIMES[:10]:
                self.assert_bool(keeps(moved, prime), own_keeps(moved, prime))

    def test_wrong_parameters(self):
        good = {"root": Root([1, 0, 1]), "prime": 3}
        self.assert_refuses(keeps, good, "root", InvalidRoot, NOT_ROOTS)
        self.assert_refuses(keeps, good, "prime", InvalidPrime, NOT_PRIMES)
        self.assert_sequence(keeps, [("root", [1, 0, 1], InvalidRoot), ("prime", 9, None)])
        self.assert_bool(keeps(prime=Sub(3), root=good["root"]), True)


class KeptTest(Checks):
    def test_against_own_reckoning(self):
        source = source_of(123)
        roots = [row[0] for row in round_roots()[::3]] + [some_root(source) for _ in range(20)]
        for root in roots:
            found = self.assert_pure(kept_primes, root, 24)
            self.assertIs(found.__class__, list)
            self.assertEqual(found, [prime for prime in PRIMES[:120] if own_keeps(root, prime)][:24])
            for prime in found:
                self.assertIs(prime.__class__, int)
            for many in (0, 1, 2, 7, 23):
                self.assertEqual(kept_primes(root, many), found[:many])

    def test_primes_that_do_not_keep_are_left_out(self):
        spoiled = 1
        for prime in PRIMES[:20]:
            spoiled *= prime
        root = Root([Ratio(spoiled), 0, 1])
        self.assertEqual(kept_primes(root, 24), PRIMES[20:44])
        self.assertEqual(kept_primes(Root([Ratio(1, spoiled), 0, 1]), 24), PRIMES[20:44])

    def test_bounds(self):
        root = Root([1, 0, 1])
        self.assertEqual(kept_primes(root, 0), [])
        self.assertEqual(kept_primes(many=Sub(2), root=root), [3, 5])
        self.assertEqual(len(kept_primes(root, 24)), 24)

    def test_wrong_parameters(self):
        good = {"root": Root([1, 0, 1]), "many": 3}
        self.assert_refuses(kept_primes, good, "root", InvalidRoot, NOT_ROOTS)
        self.assert_refuses(kept_primes, good, "many", InvalidMany, NOT_MANY)
        self.assert_sequence(kept_primes, [("root", [1, 0, 1], InvalidRoot), ("many", 25, None)])
