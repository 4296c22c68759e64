"""rootsround.chains: the first whole parts, States and parts of a chain, and norms."""

from rootsround.chains import norm, parts, quotients, states
from rootsround.errors import InvalidMany, InvalidPoly, InvalidRoot, TooMany
from rootsround.moves import moved_root, scaled_root
from rootsround.parts import common
from rootsround.polys import degree, put_in, scaled
from rootsround.ratios import Ratio
from rootsround.roots import Root
from rootsround.states import State, first_state
from tests.helpers import (NOT_INTEGERS, NOT_POLYS, NOT_ROOTS, Checks, Sub, frac, fracs, ratio, ratios, some_poly,
                           some_root, source_of)
from tests.own import NEVER, own_chain, own_norm, own_part, root_of, round_roots

NOT_MANY = NOT_INTEGERS + [-1, -16, 17, 18, 1000, Ratio(3), Ratio(1, 2), Sub(17), Sub(-1), "3"]
LISTS = (quotients, states, parts)


def some_roots(seed, many):
    """Round roots and others, of all degrees."""
    source = source_of(seed)
    chosen = source.sample([row[0] for row in round_roots()], many)
    return chosen + [root_of(text) for text in NEVER[:4]] + [some_root(source) for _ in range(many)]


def few(root):
    """So many places that the numbers do not grow out of bounds."""
    return 16 if root.degree == 2 else 12 if root.degree == 4 else 7


class ListsTest(Checks):
    def test_against_fractions(self):
        for root in some_roots(71, 10):
            many = few(root)
            places = own_chain(root, many)
            found = self.assert_pure(quotients, root, many)
            self.assertIs(found.__class__, list)
            for whole in found:
                self.assert_told(whole)
            self.assertEqual(found, [ratios(whole) for _, _, whole in places])
            told_states = states(root, many)
            self.assertIs(told_states.__class__, list)
            for state, (lead, below, whole) in zip(told_states, places, strict=True):
                self.assertIs(state.__class__, State)
                self.assertEqual(state, State(root, ratios(lead), ratios(below)))
                self.assertEqual(state.whole(), ratios(whole))

    def test_parts_from_the_last_whole_part_up(self):
        for root in some_roots(72, 10):
            many = few(root)
            wholes = [whole for _, _, whole in own_chain(root, many)]
            found = self.assert_pure(parts, root, many)
            self.assertIs(found.__class__, list)
            self.assertEqual(len(found), many)
            for at, part in enumerate(found):
                self.assertIs(part.__class__, tuple)
                self.assertEqual(len(part), 2)
                for half in part:
                    self.assert_told(half)
                top, bottom = own_part(wholes[:at + 1])
                self.assertEqual(part, (ratios(top), ratios(bottom)))

    def test_first_two_parts(self):
        for root in some_roots(73, 6):
            (first, second) = [fracs(whole) for whole in quotients(root, 2)]
            zeroth, one = parts(root, 2)
            self.assertEqual(zeroth, (root.nearest(), [Ratio(1)]))
            self.assertEqual(one[1], ratios(second))
            self.assertEqual(degree(one[0]), len(first) + len(second) - 2)

    def test_norms_of_parts_are_q_with_turned_signs(self):
        for root in some_roots(74, 8):
            many = few(root) - 1
            for at, ((p, q), state) in enumerate(zip(parts(root, many), states(root, many + 1)[1:], strict=True)):
                wanted = state.second() if at % 2 else scaled(state.second(), -1)
                self.assertEqual(ratios(own_norm(root, p, q)), wanted)
                if degree(p) <= 30:
                    self.assertEqual(norm(root, p, q), wanted)
                self.assertLess(degree(wanted), root.half)
                if degree(p) <= 12:
                    self.assertEqual(common(p, q), [Ratio(1)])

    def test_degrees(self):
        for root in some_roots(75, 8):
            many = few(root)
            reached = 0
            rows = zip(quotients(root, many), states(root, many), parts(root, many), strict=True)
            for at, (whole, state, part) in enumerate(rows):
                reached += degree(whole)
                self.assertEqual([len(half) - 1 for half in part], [reached, reached - root.half])
                self.assert_bool(state.is_reduced, at > 0)
                if at > 0:
                    self.assertEqual(degree(state.second()) + degree(whole), root.half)

    def test_half_round_and_round(self):
        for root, _, steps, number in round_roots():
            many = min(2 * steps + 2, 16)
            wholes, told_states = quotients(root, many), states(root, many)
            if steps < many:
                self.assertEqual(told_states[steps].second(), [number])
            for at in range(steps, many):
                factor = number if (at - steps) % 2 else Ratio(1).over(number)
                doubled = 2 if at == steps else 1
                self.assertEqual(wholes[at], scaled(wholes[at - steps], factor * doubled))
            if 2 * steps + 1 < many:
                self.assertEqual(told_states[2 * steps + 1], told_states[1])
                self.assert_bool(told_states[steps + 1] == told_states[1], number == Ratio(1))

    def test_moved_and_scaled(self):
        for root in some_roots(77, 6):
            wholes = quotients(root, 4)
            for first, second in [(3, -1), (Ratio(1, 2), Ratio(2, 3)), (-1, 0), (-2, 5)]:
                # moved by a number below 0 the root of an odd d has its sign turned
                sign = -1 if frac(first) < 0 and root.half % 2 else 1
                wanted = [scaled(put_in(whole, [second, first]), sign) for whole in wholes]
                self.assertEqual(quotients(moved_root(root, first, second), 4), wanted)
            for number in (3, Ratio(2, 5), -2):
                size = ratio(abs(frac(number)))
                wanted = [scaled(whole, Ratio(1).over(size) if at % 2 else size) for at, whole in enumerate(wholes)]
                self.assertEqual(quotients(scaled_root(root, number), 4), wanted)

    def test_bounds(self):
        root = Root([0, -2, 0, 0, 1])
        for function in LISTS:
            self.assertEqual(function(root, 0), [])
            self.assertEqual(len(function(root, 1)), 1)
            self.assertEqual(len(function(root, Sub(2))), 2)
            self.assertEqual(len(function(many=16, root=root)), 16)
            self.assertEqual(function(root, 5), function(root, 16)[:5])
        self.assertEqual(states(root, 1), [first_state(root)])

    def test_parts_of_degree_64(self):
        root = Root([1] + [0] * 7 + [1])
        found = parts(root, 16)
        self.assertEqual([len(p) - 1 for p, _ in found], [4 * (at + 1) for at in range(16)])
        self.assertEqual(len(found[-1][1]) - 1, 60)
        self.assert_told(found[-1][0])
        self.assertEqual(own_norm(root, found[-1][0], found[-1][1]), [1])

    def test_wrong_parameters(self):
        good = {"root": Root([1, 0, 1]), "many": 3}
        for function in LISTS:
            self.assert_refuses(function, good, "root", InvalidRoot, NOT_ROOTS)
            self.assert_refuses(function, good, "many", InvalidMany, NOT_MANY)
            self.assert_sequence(function, [("root", [1, 0, 1], InvalidRoot), ("many", 17, InvalidMany)])


class NormTest(Checks):
    def test_against_fractions(self):
        source = source_of(76)
        for _ in range(60):
            root = some_root(source)
            first, second = [some_poly(source, source.randint(-1, 9)) for _ in range(2)]
            found = self.assert_pure(norm, root, first, second)
            self.assert_told(found)
            self.assertEqual(found, ratios(own_norm(root, first, second)))

    def test_noughts(self):
        root = Root([0, -2, 0, 0, 1])
        self.assertEqual(norm(root, [], [0, 0]), [])
        self.assertEqual(norm(root, (0, 2), []), [Ratio(0), Ratio(0), Ratio(4)])
        self.assertEqual(norm(root, [0] * 61, (Ratio(1), 0)), [Ratio(0), Ratio(2), Ratio(0), Ratio(0), Ratio(-1)])

    def test_degrees_60_and_above(self):
        for half in (1, 2, 3, 4):
            root = Root([1] + [0] * (2 * half - 1) + [4])
            self.assertEqual(degree(norm(root, [0] * 30 + [3], [])), 60)
            self.assertEqual(degree(norm(root, [0] * 30 + [3] + [0] * 30, [])), 60)
            self.assertEqual(degree(norm(root, [], [0] * (30 - half) + [1, 0])), 60)
            self.assertEqual(len(norm(root, [0] * 30 + [2], (0,) * (30 - half) + (1,))), 61 - 2 * half)
            told = {"what": "degree", "limit": 60}
            for first, second in [([0] * 31 + [1], []), ([1], [0] * (31 - half) + [1]), ([1] * 61, [1] * 61),
                                  ([0] * 31 + [2], [0] * (31 - half) + [1]), ([], (0,) * 60 + (Ratio(1, 2),))]:
                self.assert_error(TooMany, told, norm, root, first, second)
                self.assert_error(TooMany, told, norm, second=second, first=first, root=root)

    def test_wrong_parameters(self):
        good = {"root": Root([1, 0, 1]), "first": [1, 2], "second": [3]}
        self.assert_refuses(norm, good, "root", InvalidRoot, NOT_ROOTS)
        self.assert_refuses(norm, good, "first", InvalidPoly, NOT_POLYS)
        self.assert_refuses(norm, good, "second", InvalidPoly, NOT_POLYS)
        self.assert_sequence(norm, [("root", None, InvalidRoot), ("first", [None], None), ("second", 7, None)])
        self.assert_sequence(norm, [("root", None, InvalidRoot), ("first", [1] * 40, None), ("second", [], None)])
        wrong = [1] * 40 + [True]
        self.assert_error(InvalidPoly, {"value": wrong}, norm, good["root"], wrong, "x")
        self.assert_error(InvalidPoly, {"value": wrong}, norm, good["root"], [1] * 40, wrong)
