"""rootsround.verdicts: whether roots are round, and papers of two primes."""

from rootsround.errors import InvalidRoot, TooMany
from rootsround.moves import moved_root, scaled_root
from rootsround.polys import degree
from rootsround.ratios import Ratio
from rootsround.roots import Root
from rootsround.verdicts import is_never_paper, is_round, never_paper, round_degree, round_unit
from tests.helpers import NOT_INTEGERS, NOT_ROOTS, Checks, Sub, ratios, some_root, source_of
from tests.own import FAR_ROUND, NEVER, mod_degree, own_least, own_norm, root_of, round_roots
from tests.test_primes import PRIMES, own_keeps
from tests.test_rests import LONG, TOO_LONG

HOOK, NEVER_ONE = Root([0, 1, 0, 0, 1]), Root([1, 1, 0, 0, 1])
BOUNDS = {2: 8, 4: 12, 6: 10, 8: 8}
STEPS, TOO_FEW = {"what": "steps", "limit": 600}, {"what": "primes", "limit": 24}
FIRST_FOUR = (round_degree, is_round, round_unit, never_paper)


def kept(root, many):
    """The first primes that keep the root, by the words of [7]."""
    return [prime for prime in PRIMES[:200] if own_keeps(root, prime)][:many]


def own_other(root, primes, wanted):
    """The first other prime with another rest degree, and this; or the error that is due."""
    for prime in primes:
        found = mod_degree(root, prime)
        if found is None:
            return STEPS
        if found != wanted:
            return prime, found
    return TOO_FEW


def own_verdict(root):
    """What is due for the least unit and for the never paper: each a value, None or the attributes of an error."""
    primes = kept(root, 24)
    wanted = mod_degree(root, primes[0])
    if wanted is None:
        return STEPS, STEPS
    near = wanted <= BOUNDS[root.degree]
    least = own_least(root, wanted) if near else None
    if least is not None:
        return least[:2], None
    other = own_other(root, primes[1:], wanted)
    paper = (primes[0], wanted) + other if isinstance(other, tuple) else other
    return None if near or isinstance(other, tuple) else other, paper


class VerdictTest(Checks):
    def check_root(self, root):
        least, paper = own_verdict(root)
        if isinstance(least, dict):
            for function in FIRST_FOUR[:3]:
                self.assert_error(TooMany, least, function, root)
        else:
            self.assert_bool(is_round(root), least is not None)
            found = self.assert_pure(round_unit, root)
            many = self.assert_pure(round_degree, root)
            self.assertEqual(found, None if least is None else (ratios(least[0]), ratios(least[1])))
            self.assertEqual(many, None if least is None else len(least[0]) - 1)
        if isinstance(paper, dict):
            self.assert_error(TooMany, paper, never_paper, root)
            return least, paper
        told = self.assert_pure(never_paper, root)
        self.assertEqual(told is None, paper is None)
        if told is not None:
            self.check_paper(root, told)
        return least, paper

    def check_paper(self, root, told):
        self.assertIs(told.__class__, tuple)
        self.assertEqual([one.__class__ for one in told], [int] * 4)
        prime, own, other, found = told
        self.assertNotEqual(prime, other)
        self.assertNotEqual(own, found)
        self.assertTrue(own_keeps(root, prime) and own_keeps(root, other))
        self.assertEqual((mod_degree(root, prime), mod_degree(root, other)), (own, found))
        self.assert_bool(is_never_paper(root, told), True)

    def test_round_roots(self):
        for root, many, _, _ in round_roots():
            least, paper = self.check_root(root)
            self.assertEqual(len(least[0]) - 1, many)
            self.assertIsNone(paper)
            self.assertIs(round_degree(root).__class__, int)
            found = round_unit(root)
            self.assertIs(found.__class__, tuple)
            for half in found:
                self.assert_told(half)
            self.assertEqual(len(own_norm(root, *found)), 1)

    def test_round_roots_beyond_the_bounds(self):
        for text, many, _, _ in FAR_ROUND:
            root = root_of(text)
            self.assertGreater(many, BOUNDS[root.degree])
            for function in FIRST_FOUR:
                self.assert_error(TooMany, TOO_FEW, function, root)

    def test_bounds_themselves(self):
        met = {(root.degree, many) for root, many, _, _ in round_roots()}
        for pair in [(4, 12), (6, 10), (8, 8)]:
            self.assertIn(pair, met)

    def test_roots_that_never_come_round(self):
        for text in NEVER:
            least, paper = self.check_root(root_of(text))
            self.assertIsNone(least)
            self.assertIs(paper.__class__, tuple)
        # the second prime has the degree of the first one, 35
        self.assertEqual(never_paper(root_of("1 1 1 1 1 1 1")), (3, 35, 11, 117))
        self.assertEqual(never_paper(NEVER_ONE), (3, 7, 5, 9))

    def test_any_roots(self):
        source = source_of(141)
        met = set()
        for _ in range(90):
            least, paper = self.check_root(some_root(source))
            for one in (least, paper):
                met.add(one["what"] if isinstance(one, dict) else one.__class__)
        self.assertEqual(met, {"steps", tuple, type(None)})

    def test_the_first_chain_is_too_long(self):
        for poly in [[1, -1, -2, -4, 0, 4, -3, -2, 1], [0, -3, -2, -4, 3, -1, -4, -4, 1]]:
            self.assertEqual(self.check_root(Root(poly)), (STEPS, STEPS))
            for function in FIRST_FOUR:
                self.assert_error(TooMany, STEPS, function, Root(poly))

    def test_the_second_chain_is_too_long(self):
        for poly in [[-2, 4, 3, -2, -2, -3, 1, 2, 1], [0, -4, 1, 3, -3, -1, -4, -1, 1],
                     [-3, -2, -1, -2, -3, -3, 0, -4, 1]]:
            self.assertEqual(self.check_root(Root(poly)), (STEPS, STEPS))
        self.assertEqual(mod_degree(Root(poly), 3), 9)

    def test_degree_4_just_at_the_bound_and_above(self):
        """Of all primes below 800 13 alone keeps these roots, and the chain modulo the next one is too long."""
        spoiled = 1
        for prime in PRIMES:
            if prime < 800 and prime != 13:
                spoiled *= prime
        for numbers, wanted in [([-5, 7, 7], 12), ([-8, -7, 4], 13)]:
            root = Root([Ratio(number, spoiled) for number in numbers] + [0, 1])
            self.assertEqual((kept(root, 2), mod_degree(root, 13)), ([13, 809], wanted))
            self.assertIsNone(mod_degree(root, 809))
            self.assert_error(TooMany, STEPS, never_paper, root)
            if wanted == 12:
                self.assertEqual([round_degree(root), is_round(root), round_unit(root)], [None, False, None])
            else:
                self.assert_error(TooMany, STEPS, round_degree, root)

    def test_a_short_chain_and_a_long_one(self):
        """No second prime is looked at for a verdict by the chain over fractions, but for a paper."""
        for poly in [[-3, -2, -4, -3, 2, 3, 2, -2, 1], [-3, 3, 3, -2, -2, 2, 0, 2, 1], [1, -2, -4, 3, 2, 4, -4, -4, 1]]:
            root = Root(poly)
            self.assertLessEqual(mod_degree(root, kept(root, 1)[0]), 8)
            self.assertEqual(self.check_root(root), (None, STEPS))
            self.assertIsNone(round_degree(root))
            self.assert_bool(is_round(root), False)
            self.assertIsNone(round_unit(root))
            self.assert_error(TooMany, STEPS, never_paper, root)

    def test_moved_and_scaled(self):
        for root, many, _, _ in round_roots()[::5]:
            far = scaled_root(moved_root(root, Ratio(-2, 3), 1), Ratio(5, 2))
            self.assertEqual(round_degree(far), many)
            self.assertEqual(degree(round_unit(far)[0]), many)
            self.assertEqual(round_unit(far)[0][-1], far.nearest()[-1])
        far = scaled_root(moved_root(NEVER_ONE, -1, 3), 2)
        self.assertIsNone(round_degree(far))
        self.check_root(far)

    def test_wrong_parameters(self):
        for function in FIRST_FOUR:
            self.assert_refuses(function, {"root": HOOK}, "root", InvalidRoot, NOT_ROOTS)
            self.assertEqual(function(root=HOOK), function(HOOK))


class NeverPaperTest(Checks):
    def test_all_pairs_of_primes(self):
        for text in NEVER[:6]:
            root = root_of(text)
            primes = [prime for prime in kept(root, 4) if mod_degree(root, prime) is not None]
            for prime in primes:
                for other in primes:
                    own, found = mod_degree(root, prime), mod_degree(root, other)
                    wanted = own != found
                    self.assert_bool(is_never_paper(root, (prime, own, other, found)), wanted)
                    self.assert_bool(is_never_paper(root, (prime, Sub(own), Sub(other), found)), wanted)
                    self.assert_bool(is_never_paper(root, (prime, own + 1, other, found)), False)
                    self.assert_bool(is_never_paper(root, (prime, own, other, found + 1)), False)
                    self.assert_bool(is_never_paper(root, (prime, found, other, own)), False)

    def test_round_roots_have_none(self):
        for root, many, _, _ in round_roots()[::3]:
            primes = kept(root, 3)
            for own, found in [(many, many), (many, many + 1), (many - 1, many), (1, 2), (many, 2 * many)]:
                self.assert_bool(is_never_paper(root, (primes[0], own, primes[1], found)), False)

    def test_values_of_all_kinds(self):
        good = (3, 7, 5, 9)
        self.assert_bool(is_never_paper(NEVER_ONE, good), True)
        self.assert_bool(is_never_paper(value=(5, 9, 3, 7), root=NEVER_ONE), True)
        wrong = NOT_INTEGERS + [
            list(good), (3, 7, 5), good + (1,), (good,), ((3, 7), (5, 9)), (3, 7, 3, 9), (3, 7, 3, 7), (3, 7, 5, 7),
            (3, 9, 5, 7), (2, 7, 5, 9), (9, 7, 5, 9), (3, 7, 15, 9), (3, 7, 10007, 9), (3, 0, 5, 9), (3, -7, 5, 9),
            (3, 7, 5, 0), (3, 7, 5, -9), (3, True, 5, 9), (3, 7, 5, True), (True, 7, 5, 9), (3, 7, Ratio(5), 9),
            (3, Ratio(7), 5, 9), (Ratio(3), 7, 5, 9), (3, 7, 5, Ratio(9)), ("3", 7, 5, 9), (3, "7", 5, 9),
            (3, None, 5, None), (None, 7, None, 9), ([3], 7, 5, 9), (-3, 7, 5, 9), (0, 7, 5, 9), "3759",
            (3, [7], 5, [9])]
        for value in wrong:
            self.assert_bool(is_never_paper(NEVER_ONE, value), False)

    def test_primes_that_do_not_keep(self):
        root = root_of("1 1 0 1/3 25/4")
        self.assertEqual([own_keeps(root, prime) for prime in (3, 5)], [False, False])
        prime = kept(root, 1)[0]
        own = mod_degree(root, prime)
        for other in (3, 5):
            for value in [(prime, own, other, own + 1), (other, own + 1, prime, own)]:
                self.assert_bool(is_never_paper(root, value), False)

    def test_600_steps_and_601(self):
        for (poly, prime, _, own), is_short in [(row, True) for row in LONG] + [(row, False) for row in TOO_LONG]:
            root = Root(poly)
            other = [one for one in kept(root, 6) if one != prime and mod_degree(root, one) not in (None, own)][0]
            found = mod_degree(root, other)
            papers = [(prime, own, other, found), (other, found, prime, own)]
            for value in papers + [(prime, own + 1, other, found), (prime, 10 ** 30, other, 1), (other, 1, prime, 2)]:
                if is_short:
                    self.assert_bool(is_never_paper(root, value), value in papers)
                else:
                    self.assert_error(TooMany, STEPS, is_never_paper, root, value)
                    self.assert_error(TooMany, STEPS, is_never_paper, value=value, root=root)
            # these are no papers whatever the chains tell
            for value in [(prime, own, prime, found), (prime, own, other, own), (prime, 0, other, 1),
                          (prime, 1, other, 0), (prime, 1, other, -1), [prime, own, other, found], (prime, own),
                          (prime, own, 9, found), (prime, own, other, True), (prime, own, other, Ratio(found))]:
                self.assert_bool(is_never_paper(root, value), False)

    def test_two_chains_that_are_too_long(self):
        root = Root([1, 1, 0, 0, 0, 1, 0, 0, 1])
        for value in [(9967, 5, 9973, 6), (9973, 1, 3, 2), (3, 1, 9973, 2)]:
            if all(own_keeps(root, prime) for prime in value[::2]):
                self.assert_error(TooMany, STEPS, is_never_paper, root, value)
        self.assertTrue(own_keeps(root, 9967) and own_keeps(root, 9973))

    def test_wrong_parameters(self):
        good = {"root": NEVER_ONE, "value": (3, 7, 5, 9)}
        self.assert_refuses(is_never_paper, good, "root", InvalidRoot, NOT_ROOTS)
        self.assert_error(InvalidRoot, {"value": 5}, is_never_paper, 5, None)
