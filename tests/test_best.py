"""rootsround.best: which polynomials are parts, and how states are led to reduced ones."""

from rootsround.best import led, part_of
from rootsround.chains import parts
from rootsround.errors import InvalidPoly, InvalidRoot, InvalidState, NoughtPoly, TooMany
from rootsround.polys import degree, scaled, times
from rootsround.ratios import Ratio
from rootsround.roots import Root
from rootsround.states import State, first_state
from tests.helpers import NOT_POLYS, NOT_ROOTS, Checks, fracs, ratio, ratios, some_poly, some_root, source_of
from tests.own import NEVER, frac_divided, frac_minus, frac_plus, frac_times, own_norm, root_of, round_roots
from tests.test_states import some_state

NOT_STATES = NOT_ROOTS + [Root([1, 0, 1]), first_state, State, [first_state(Root([1, 0, 1]))],
                          (Root([1, 0, 1]), [], [1])]


def roots_for(seed):
    source = source_of(seed)
    return [row[0] for row in round_roots()] + [root_of(text) for text in NEVER] + [some_root(source)
                                                                                    for _ in range(10)]


class PartOfTest(Checks):
    def check_part(self, root, at, part, factor, sign):
        """The part times the factor is told, or, with a norm of too great a degree, None."""
        first, second = times(part[0], factor), times(part[1], scaled(factor, sign))
        if max(degree(first), degree(second)) > 20:
            self.assert_error(TooMany, {"what": "degree", "limit": 20}, part_of, root, first, second)
            return
        small = len(own_norm(root, first, second)) - 1 < root.half
        found = self.assert_pure(part_of, root, first, second)
        if not small:
            self.assertIsNone(found)
            return
        self.assertIs(found.__class__, tuple)
        self.assertEqual(found, (at, ratios(fracs(factor)), sign))
        self.assert_told(found[1])
        self.assertEqual([found[0].__class__, found[2].__class__], [int, int])

    def test_parts_times_factors(self):
        source = source_of(81)
        for root in roots_for(82):
            for at, part in enumerate(parts(root, 16 if root.half < 2 else 7)):
                if degree(part[0]) > 20 or max(abs(number.top) for number in part[0]) > 10 ** 20:
                    break
                for _ in range(2):
                    factor = some_poly(source, source.choice([0, 0, 0, 1, 2]))
                    self.check_part(root, at, part, factor, source.choice([1, -1]))

    def test_norms_just_below_and_just_at_half(self):
        met = set()
        for root in roots_for(83):
            for at, part in enumerate(parts(root, 4)):
                for many in range(3):
                    factor = [0] * many + [Ratio(-2, 3)]
                    first, second = times(part[0], factor), times(part[1], factor)
                    height = len(own_norm(root, first, second)) - 1
                    if height in (root.half - 1, root.half) and degree(first) <= 20:
                        met.add((root.half, height))
                        self.check_part(root, at, part, factor, 1)
        self.assertEqual(met, {(half, height) for half in (1, 2, 3, 4) for height in (half - 1, half)} - {(1, 1)})

    def test_what_is_no_part(self):
        root = Root([0, -2, 0, 0, 1])
        for first, second in [([0, 1], [1]), ([1], [1]), ([], [1]), ([0] * 20 + [1], [1]), ([0, 0, 2], [1]),
                              ([1, 0, 0, 1], [0, 1]), ([5], [0] * 20 + [1]), ((0, 0, 0, 1), (0, 1, 1))]:
            self.assertIsNone(part_of(root, first, second))

    def test_any_two_polynomials(self):
        source = source_of(84)
        for _ in range(60):
            root = some_root(source)
            second = some_poly(source, source.randint(0, 3))
            first = some_poly(source, len(fracs(second)) - 1 + root.half)
            found = part_of(root, first, second)
            small = len(own_norm(root, first, second)) - 1 < root.half
            self.assertEqual(found is not None, small)

    def test_lists_tuples_and_noughts_at_the_end(self):
        root = Root([0, -2, 0, 0, 1])
        wanted = (1, [Ratio(2)], -1)
        for first, second in [([2, 0, 0, -2], [0, 2]), ((2, 0, Ratio(0), -2, 0), (0, Ratio(4, 2), 0)),
                              ([2, 0, 0, -2] + [0] * 57, [0, 2] + [0] * 59)]:
            self.assertEqual(part_of(root, first, second), wanted)
            self.assertEqual(part_of(second=second, root=root, first=first), wanted)

    def test_place_19(self):
        root = Root([-7, 0, 1])
        first, second = [fracs(half) for half in parts(root, 16)[-1]]
        wholes = [fracs(root.nearest())]
        for at in range(4):
            # the chain of this root is (x, then -2 x / 7 and 2 x by turns)
            wholes.append([ratio(0), ratio(2)])
        last, ahead = [[0, 1], [1]], [[1], []]
        for at in range(1, 20):
            whole = [0, 2] if at % 2 == 0 else [0, Ratio(-2, 7)]
            last, ahead = [frac_plus(frac_times(fracs(whole), fracs(one)), fracs(two))
                           for one, two in zip(last, ahead)], last
            if at == 15:
                self.assertEqual(last, [first, second])
        self.assertEqual(part_of(root, ratios(last[0]), scaled(ratios(last[1]), -1)), (19, [Ratio(1)], -1))

    def test_degrees_20_and_21(self):
        told = {"what": "degree", "limit": 20}
        for root in [Root([1, 0, 1]), Root([1] + [0] * 7 + [1])]:
            self.assertIsNone(part_of(root, [0] * 20 + [1], [0] * 20 + [1]))
            self.assertIsNone(part_of(root, [0] * 20 + [1] + [0] * 40, [1]))
            for first, second in [([0] * 21 + [1], [1]), ([1], [0] * 21 + [1]), ([1] * 61, [1] * 61), ([], [1] * 22)]:
                self.assert_error(TooMany, told, part_of, root, first, second)

    def test_noughts_come_first(self):
        root = Root([1, 0, 1])
        for nought in [[], (), [0], (Ratio(0), 0), [0] * 61]:
            for first in [[], [1], [0, 1], [1] * 30, [1] * 61]:
                self.assert_error(NoughtPoly, {}, part_of, root, first, nought)

    def test_wrong_parameters(self):
        good = {"root": Root([1, 0, 1]), "first": [0, 1], "second": [1]}
        self.assert_refuses(part_of, good, "root", InvalidRoot, NOT_ROOTS)
        self.assert_refuses(part_of, good, "first", InvalidPoly, NOT_POLYS)
        self.assert_refuses(part_of, good, "second", InvalidPoly, NOT_POLYS)
        self.assert_sequence(part_of, [("root", 1, InvalidRoot), ("first", 2, None), ("second", 3, None)])
        self.assert_sequence(part_of, [("root", 1, InvalidRoot), ("first", [1] * 30, None), ("second", [], None)])
        wrong = [1] * 22 + ["x"]
        self.assert_error(InvalidPoly, {"value": wrong}, part_of, good["root"], wrong, [])
        self.assert_error(InvalidPoly, {"value": wrong}, part_of, good["root"], [1] * 30, wrong)


class LedTest(Checks):
    def own_step(self, state):
        """The next state by Fractions, as [6] tells it."""
        root = state.root()
        lead, below = fracs(state.first()), fracs(state.second())
        whole = frac_divided(frac_plus(lead, fracs(root.nearest())), below)[0]
        lead = frac_minus(frac_times(whole, below), lead)
        below = frac_divided(frac_minus(fracs(root.poly()), frac_times(lead, lead)), below)[0]
        return State(root, ratios(lead), ratios(below))

    def own_reduced(self, state):
        """Whether the degree of P - A is below that of Q, and that below d."""
        ahead = len(frac_minus(fracs(state.first()), fracs(state.root().nearest())))
        return ahead < len(state.second()) <= state.root().half

    def check_led(self, state):
        steps, found = self.assert_pure(led, state)
        self.assertIs(led(state).__class__, tuple)
        self.assertIs(steps.__class__, int)
        self.assertIs(found.__class__, State)
        walked = state
        for _ in range(steps):
            self.assertFalse(self.own_reduced(walked))
            walked = self.own_step(walked)
        self.assertTrue(self.own_reduced(walked))
        self.assertEqual(found, walked)
        self.assertLessEqual(2 * steps, degree(state.second()) + 4)
        return steps

    def test_any_states(self):
        source = source_of(85)
        found = [self.check_led(some_state(source)) for _ in range(80)]
        self.assertIn(0, found)
        self.assertGreater(max(found), 1)

    def state_behind(self, state, lead):
        """A State whose next one this is, with this polynomial for its whole part."""
        root, first = state.root(), fracs(state.first())
        below = frac_divided(frac_minus(fracs(root.poly()), frac_times(first, first)), fracs(state.second()))[0]
        return State(root, ratios(frac_minus(frac_times(fracs(lead), below), first)), ratios(below))

    def test_states_with_great_degrees(self):
        source = source_of(86)
        for root in roots_for(87)[::6]:
            state = first_state(root).next()
            behind = []
            while degree(state.second()) < 18:
                state = self.state_behind(state, some_poly(source, 1))
                behind.append(state)
            for many, state in enumerate(behind, 1):
                if degree(state.second()) >= root.half:
                    self.assertEqual(self.check_led(state), many)
            self.assertGreaterEqual(len(behind), 6)

    def test_other_states_with_great_degrees(self):
        source = source_of(89)
        for root in roots_for(90)[::5]:
            lead = fracs(some_poly(source, 10))
            left = frac_minus(fracs(root.poly()), frac_times(lead, lead))
            self.assertEqual(len(left), 21)
            self.check_led(State(root, ratios(lead), ratios(left)))
            self.check_led(State(root, some_poly(source, 20), [Ratio(3, 2)]))
            self.check_led(State(root, [], root.poly()))

    def test_first_states_and_reduced_ones(self):
        for root in roots_for(88)[::4]:
            state = first_state(root)
            self.assertEqual(led(state), (1, state.next()))
            self.assertEqual(led(state.next()), (0, state.next()))
            self.assertEqual(led(State(root, root.nearest(), [5])), (0, State(root, root.nearest(), [5])))

    def test_wrong_parameters(self):
        self.assert_refuses(led, {"state": first_state(Root([1, 0, 1]))}, "state", InvalidState, NOT_STATES)
        self.assertEqual(led(state=first_state(Root([1, 0, 1])))[0], 1)
