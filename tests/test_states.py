"""rootsround.states: States, the next one and the one behind."""

from rootsround.errors import InvalidPoly, InvalidRoot, NoState, NotReduced, TooMany
from rootsround.polys import degree, divided, minus, plus, scaled, times, told
from rootsround.ratios import Ratio
from rootsround.roots import Root
from rootsround.states import State, first_state
from tests.helpers import NOT_POLYS, NOT_ROOTS, Checks, some_poly, some_root, source_of


def some_state(source):
    """A State, mostly not a reduced one.

    With (P, Q) stand (P + f Q, Q) and, walked back, (P + f Q, (D - (P + f Q) squared) / Q).
    """
    state = first_state(some_root(source))
    for _ in range(source.randint(0, 2)):
        state = state.next()
    root, first, second = state.root(), state.first(), state.second()
    for _ in range(source.randint(0, 3)):
        lead = plus(first, times(some_poly(source, source.randint(-1, 3)), second))
        below = divided(minus(root.poly(), times(lead, lead)), second)[0]
        if max(degree(lead), degree(below)) > 20:
            break
        first, second = lead, source.choice([second, below])
    return State(root, first, second)


class StateTest(Checks):
    def check_next(self, state):
        root, first, second = state.root(), state.first(), state.second()
        whole, ahead = state.whole(), state.next()
        self.assert_told(whole)
        self.assertEqual(whole, divided(plus(first, root.nearest()), second)[0])
        self.assertIs(ahead.__class__, State)
        self.assertEqual(ahead.root(), root)
        self.assertEqual(ahead.first(), minus(times(whole, second), first))
        self.assertEqual(times(ahead.second(), second), minus(root.poly(), times(ahead.first(), ahead.first())))
        return ahead

    def check_reduced(self, state):
        root = state.root()
        ahead = degree(minus(state.first(), root.nearest()))
        wanted = ahead < degree(state.second()) < root.half
        self.assert_bool(state.is_reduced, wanted)
        if not wanted:
            self.assert_error(NotReduced, {}, state.back)
        return wanted

    def check_back(self, state):
        behind = state.back()
        self.assertEqual(behind.next(), state)
        self.assert_bool(behind.is_reduced, True)
        self.assertEqual(behind, state.back())

    def test_chains(self):
        source = source_of(61)
        for _ in range(40):
            state = first_state(some_root(source))
            root = state.root()
            self.assertEqual((state.first(), state.second()), ([], [Ratio(1)]))
            self.assert_bool(state.is_reduced, False)
            for place in range(6):
                ahead = self.check_next(state)
                self.assert_bool(self.check_reduced(ahead), True)
                self.check_back(ahead)
                if place > 0:
                    self.assertEqual(ahead.back(), state)
                    self.assertEqual(degree(state.whole()) + degree(state.second()), root.half)
                state = ahead
                if max(len(str(number.top)) for number in state.second()) > 300:
                    break

    def test_any_states_lead_to_reduced_ones(self):
        source = source_of(62)
        for _ in range(60):
            state = some_state(source)
            for _ in range(degree(state.second()) // 2 + 3):
                if self.check_reduced(state):
                    self.check_back(state)
                before = state
                state = self.check_next(state)
                if before.is_reduced:
                    self.assertEqual(state.back(), before)
            self.assert_bool(state.is_reduced, True)

    def test_behind_the_nearest(self):
        source = source_of(63)
        for _ in range(30):
            root = some_root(source)
            near, rest = root.nearest(), root.rest()
            state = State(root, near, rest)
            self.assertEqual(first_state(root).next(), state)
            self.assertEqual(State(root, near, [1]).next(), state)
            self.assertEqual(state.back(), State(root, near, [1]))

    def test_parts_are_told_and_new(self):
        root = Root([0, -2, 0, 0, 1])
        first, second = [0, 0, 1, 0], [0, Ratio(-2), 0]
        state = State(root, first, second)
        first[0], second[1] = 9, 9
        for method in (state.first, state.second, state.whole):
            kept = repr(method())
            self.assert_told(method())
            method().append("spoiled")
            method()[0] = "spoiled"
            self.assertEqual(repr(method()), kept)
        state.next(), state.back()
        self.assertEqual(state, State(root, (0, 0, 1), (0, -2)))
        self.assertEqual(state.root(), root)
        with self.assertRaises(AttributeError):
            state.is_reduced = False

    def test_not_reduced(self):
        root = Root([1, 0, 0, 0, 1])
        near = root.nearest()
        for first, second in [([], [1]), (near, root.poly()), (plus(near, [1]), [1]), (scaled(near, -1), [1]),
                              ([1], [0, 0, 0, 0, 1]), ([0, 0, 1], [1, 0, 0, 0, 1])]:
            try:
                state = State(root, first, second)
            except NoState:
                continue
            self.assert_bool(state.is_reduced, False)
            self.assert_error(NotReduced, {}, state.back)
        self.assert_bool(State(root, near, [5]).is_reduced, True)
        self.assert_bool(State(Root([-7, 0, 1]), [0, 1], [-7]).is_reduced, True)
        self.assert_bool(State(Root([-7, 0, 1]), [1, 1], [1]).is_reduced, False)

    def test_q_of_just_half_the_degree(self):
        root = Root(times([2, 0, 1], [3, 0, 1]))
        state = State(root, [], [2, 0, 1])
        self.assert_bool(state.is_reduced, False)
        self.assert_error(NotReduced, {}, state.back)
        other = State(root, root.nearest(), [1])
        self.assert_bool(other.is_reduced, True)
        # P - A of just the degree of Q
        third = State(root, plus(root.nearest(), [3]), [1])
        self.assert_bool(third.is_reduced, False)

    def test_no_states(self):
        root = Root([0, -2, 0, 0, 1])
        for nought in [[], (), [0], [0] * 61]:
            self.assert_error(NoState, {}, State, root, [1], nought)
            self.assert_error(NoState, {}, State, root, nought, nought)
        for first, second in [([], [1, 1]), ([0, 0, 1], [1, 1]), ([1], [0, 1]), ([], [0] * 5 + [1]), ([], [0, 0, 1])]:
            self.assert_error(NoState, {}, State, root, first, second)
            self.assert_error(NoState, {}, State, second=second, first=first, root=root)

    def test_degrees_20_and_21(self):
        root = Root([1, 0, 1])
        first = [0] * 20 + [1]
        state = State(root, first, [1])
        self.assertEqual(degree(state.first()), 20)
        self.check_next(state)
        left = minus(root.poly(), times([0] * 10 + [1], [0] * 10 + [1]))
        self.check_next(State(root, [0] * 10 + [1], left))
        self.check_next(State(root, [0] * 10 + [1] + [0] * 50, left))
        for first, second in [([0] * 21 + [1], [1]), ([1] * 61, [1]), ([1], [0] * 21 + [1]), ([1] * 22, [1] * 22),
                              ([1] * 22, []), ([], [1] * 61)]:
            self.assert_error(TooMany, {"what": "degree", "limit": 20}, State, root, first, second)
        self.assert_error(NoState, {}, State, root, [], [0] * 20 + [1])

    def test_equal(self):
        root = Root([-1, 0, 1])
        state = State(root, [0, 1], [1])
        self.assert_bool(state == State(Root((-1, 0, Ratio(1))), (0, 1, 0), [Ratio(1)]), True)
        self.assert_bool(state != State(root, [0, 1], [1]), False)
        others = [State(root, [0, 1], [2]), State(root, [1, 1], [1]), State(Root([1, 0, 1]), [0, 1], [1]), root, None,
                  (root, [0, 1], [1]), "x", 1]
        for other in others:
            self.assert_bool(state == other, False)
            self.assert_bool(other == state, False)
            self.assert_bool(state != other, True)

    def test_repr(self):
        state = first_state(Root([-1, 0, 1]))
        told_form = "State(Root([Ratio(-1, 1), Ratio(0, 1), Ratio(1, 1)]), [], [Ratio(1, 1)])"
        self.assertEqual(repr(state), told_form)
        self.assertEqual(eval(repr(state.next())), state.next())

    def test_by_name(self):
        root = Root([-1, 0, 1])
        self.assertEqual(State(second=[1], root=root, first=[]), first_state(root=root))
        self.assertEqual(told(first_state(root).second()), [Ratio(1)])


class WrongTest(Checks):
    def test_wrong_parameters(self):
        good = {"root": Root([-1, 0, 1]), "first": [], "second": [1]}
        self.assert_refuses(State, good, "root", InvalidRoot, NOT_ROOTS)
        self.assert_refuses(State, good, "first", InvalidPoly, NOT_POLYS)
        self.assert_refuses(State, good, "second", InvalidPoly, NOT_POLYS)
        self.assert_refuses(first_state, {"root": good["root"]}, "root", InvalidRoot, NOT_ROOTS)

    def test_several_wrong_at_once(self):
        root = Root([-1, 0, 1])
        self.assert_sequence(State, [("root", 1, InvalidRoot), ("first", 2, None), ("second", 3, None)])
        self.assert_sequence(State, [("root", 1, InvalidRoot), ("first", [1] * 30, None), ("second", [], None)])
        wrong = [1] * 22 + ["x"]
        self.assert_error(InvalidPoly, {"value": wrong}, State, root, wrong, 3)
        self.assert_error(InvalidPoly, {"value": wrong}, State, root, [1] * 22, wrong)
        self.assert_error(InvalidPoly, {"value": None}, State, root, [1], None)
        self.assert_error(TooMany, {"what": "degree", "limit": 20}, State, root, [1] * 22, [])
