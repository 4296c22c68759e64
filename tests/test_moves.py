"""rootsround.moves: roots moved, scaled, alike."""

from rootsround.errors import InvalidNumber, InvalidRoot
from rootsround.extracts import extracted, whole_below
from rootsround.moves import alike, is_alike, moved_root, scaled_root
from rootsround.polys import put_in, scaled, told
from rootsround.ratios import Ratio
from rootsround.roots import Root
from tests.helpers import NOT_NUMBERS, NOT_ROOTS, Checks, Sub, frac, ratio, some_number, some_root, source_of

NOT_FACTORS = NOT_NUMBERS + [0, Ratio(0), Sub(0)]


def some_factor(source):
    while True:
        number = some_number(source)
        if frac(number) != 0:
            return number


def digits(number):
    return max(len(str(abs(number.top))), len(str(number.bottom)))


class MovedTest(Checks):
    def test_moved_and_scaled(self):
        source = source_of(51)
        for _ in range(60):
            root, first, second = some_root(source), some_factor(source), some_number(source)
            kept = repr(root)
            moved = moved_root(root, first, second)
            self.assertIs(moved.__class__, Root)
            self.assertEqual(moved.poly(), put_in(root.poly(), [second, first]))
            nearest = put_in(root.nearest(), [second, first])
            if nearest[-1].sign < 0:
                nearest = scaled(nearest, -1)
            self.assertEqual(moved.nearest(), nearest)
            self.assertEqual(moved.rest(), put_in(root.rest(), [second, first]))
            grown = scaled_root(root, first)
            factor = ratio(frac(first))
            self.assertEqual(grown.poly(), scaled(root.poly(), factor * factor))
            self.assertEqual(grown.nearest(), scaled(root.nearest(), factor.size()))
            self.assertEqual(grown.rest(), scaled(root.rest(), factor * factor))
            self.assertEqual(repr(root), kept)

    def test_by_name(self):
        root = Root([1, 0, 0, 0, 1])
        self.assertEqual(moved_root(second=1, first=-1, root=root), Root([2, -4, 6, -4, 1]))
        self.assertEqual(scaled_root(number=Ratio(-1, 2), root=root), Root([Ratio(1, 4), 0, 0, 0, Ratio(1, 4)]))
        self.assertEqual(moved_root(root, 1, 0), root)
        self.assertEqual(scaled_root(root, -1), root)

    def test_great_numbers(self):
        great = Ratio(10 ** 60 + 1, 3)
        root = Root([1, 1, 1])
        self.assertEqual(moved_root(root, great, -great).poly(), put_in([1, 1, 1], [-great, great]))
        self.assertEqual(scaled_root(root, great).nearest()[-1], great)

    def test_wrong_parameters(self):
        root = Root([1, 0, 1])
        good = {"root": root, "first": 2, "second": 0}
        self.assert_refuses(moved_root, good, "root", InvalidRoot, NOT_ROOTS)
        self.assert_refuses(moved_root, good, "first", InvalidNumber, NOT_FACTORS)
        self.assert_refuses(moved_root, good, "second", InvalidNumber, NOT_NUMBERS)
        good = {"root": root, "number": 2}
        self.assert_refuses(scaled_root, good, "root", InvalidRoot, NOT_ROOTS)
        self.assert_refuses(scaled_root, good, "number", InvalidNumber, NOT_FACTORS)

    def test_several_wrong_at_once(self):
        root = Root([1, 0, 1])
        self.assert_sequence(moved_root, [("root", 0, InvalidRoot), ("first", 0, None), ("second", "x", None)])
        nought = Ratio(0)
        self.assert_error(InvalidNumber, {"value": nought}, moved_root, root, nought, "x")
        self.assert_error(InvalidNumber, {"value": "y"}, moved_root, root, "y", "x")
        self.assert_sequence(scaled_root, [("root", None, InvalidRoot), ("number", 0, None)])


class AlikeTest(Checks):
    def check(self, root, other):
        value = self.assert_pure(alike, root, other)
        self.assertIs(value.__class__, tuple)
        self.assertEqual(len(value), 3)
        for number in value:
            self.assertIs(number.__class__, Ratio)
            self.assertLessEqual(digits(number), 2000)
        first, second, number = value
        self.assertNotEqual(first.sign, 0)
        self.assertEqual(number.sign, 1)
        self.assertEqual(scaled_root(moved_root(root, first, second), number), other)
        self.assert_bool(is_alike(root, other, value), True)
        self.assert_bool(is_alike(value=value, other=other, root=root), True)
        return value

    def test_roots_that_were_moved_and_scaled(self):
        source = source_of(52)
        for _ in range(120):
            root = some_root(source)
            first, second, number = some_factor(source), some_number(source), some_factor(source)
            other = scaled_root(moved_root(root, first, second), number)
            self.check(root, other)
            self.check(other, root)
            told_number = ratio(abs(frac(number)))
            self.assert_bool(is_alike(root, other, (first, second, told_number)), True)
            self.assert_bool(is_alike(root, other, (first, second, -told_number)), False)
            self.assert_bool(is_alike(root, other, (first, second, told_number + 1)), False)
            self.assert_bool(is_alike(root, other, (first, Ratio(1) * second + 1, told_number)), False)

    def test_alike_to_itself(self):
        source = source_of(53)
        for _ in range(40):
            root = some_root(source)
            self.check(root, root)
            self.assert_bool(is_alike(root, root, (1, 0, 1)), True)

    def test_by_two_first_numbers(self):
        for poly in [[1, 0, 0, 0, 1], [-3, 0, 5, 0, 4], [1, 0, 2, 0, 3, 0, 1], [7, 0, 0, 0, 0, 0, 0, 0, 9], [-2, 0, 1]]:
            root = Root(poly)
            for first in (3, -3, Ratio(2, 5)):
                other = moved_root(root, first, 0)
                self.check(root, other)
                for sign in (1, -1):
                    self.assert_bool(is_alike(root, other, (Ratio(1) * first * sign, 0, 1)), True)

    def test_by_one_first_number(self):
        for poly in [[1, 1, 0, 0, 1], [0, 1, 0, 0, 1], [0, 1, 0, 1, 0, 0, 1], [5, 3, 0, 0, 0, 0, 0, 0, 1]]:
            root = Root(poly)
            for first in (3, -3, Ratio(-2, 5)):
                other = scaled_root(moved_root(root, first, 5), 7)
                value = self.check(root, other)
                self.assertEqual(value, (Ratio(1) * first, Ratio(5), Ratio(7)))
                opposite = (-(Ratio(1) * first), 5, 7)
                self.assert_bool(is_alike(root, other, opposite), False)

    def test_degree_2(self):
        self.check(Root([-1, 0, 1]), Root([-9, 0, 4]))
        self.check(Root([3, 2, 1]), Root([2, 0, 1]))
        self.check(Root([-1, 0, 1]), Root([0, 2, 1]))
        for root, other in [([-1, 0, 1], [1, 0, 1]), ([-1, 0, 1], [-2, 0, 1]), ([1, 0, 1], [3, 0, 4])]:
            self.assertIsNone(alike(Root(root), Root(other)))
            self.assertIsNone(alike(Root(other), Root(root)))

    def test_alike_by_none(self):
        for root, other in [([1, 0, 0, 0, 1], [2, 0, 0, 0, 1]), ([1, 0, 0, 0, 1], [-1, 0, 0, 0, 1]),
                            ([1, 0, 0, 0, 1], [0, 1, 0, 0, 1]), ([0, 1, 0, 0, 1], [1, 0, 0, 0, 1]),
                            ([0, 1, 0, 0, 1], [0, 2, 0, 0, 1]), ([1, 1, 0, 0, 1], [1, 2, 0, 0, 1]),
                            ([1, 0, 1, 0, 1, 0, 1], [1, 0, 1, 0, 2, 0, 1]), ([1, 0, 1], [1, 0, 0, 0, 1]),
                            ([1, 0, 3, 0, 1], [1, 0, -3, 0, 1]), ([1, 2, 3, 0, 1], [1, -2, -3, 0, 1]),
                            ([1, 2, 3, 0, 1], [1, -2, 4, 0, 1])]:
            self.assertIsNone(alike(Root(root), Root(other)))
            self.assertIsNone(alike(other=Root(root), root=Root(other)))
            for value in [(1, 0, 1), (-1, 0, 1), (2, 0, 1), None]:
                self.assert_bool(is_alike(Root(root), Root(other), value), False)

    def test_lower_powers_decide(self):
        root = Root([1, 8, 4, 0, 1])
        self.assertEqual(alike(root, Root([1, -8, 4, 0, 1])), (Ratio(-1), Ratio(0), Ratio(1)))
        self.assertEqual(alike(root, Root([1, 8, 4, 0, 1])), (Ratio(1), Ratio(0), Ratio(1)))
        self.assertIsNone(alike(root, Root([1, 9, 4, 0, 1])))

    def test_what_is_no_such_tuple(self):
        root = Root([1, 0, 0, 0, 1])
        good = (1, 0, 1)
        for value in [list(good), (1, 0), (1, 0, 1, 1), (), ((1, 0, 1),), None, 1, "101", (0, 0, 1), (1, 0, 0),
                      (1, 0, -1), (Ratio(0), 0, 1), (1, 0, Ratio(-1)), (2, 0, 1), (1, 1, 1), (1, 0, 2), {}, object()]:
            with self.subTest(value=value):
                self.assert_bool(is_alike(root, root, value), False)
        for value in NOT_NUMBERS:
            for at in range(3):
                changed = list(good)
                changed[at] = value
                self.assert_bool(is_alike(root, root, tuple(changed)), False)
        self.assert_bool(is_alike(root, root, (Ratio(-1), Ratio(0), Ratio(1))), True)
        self.assert_bool(is_alike(root, root, (Sub(1), Sub(0), Sub(1))), True)

    def test_great_numbers(self):
        great = Ratio(10 ** 80 + 1, 10 ** 70 + 3)
        for poly in [[1, 1, 0, 0, 1], [2, 0, 1], [3, 0, 0, 0, 0, 1, 0, 0, 1]]:
            root = Root(poly)
            other = scaled_root(moved_root(root, great, -great), great)
            self.check(root, other)
            self.check(other, root)

    def test_wrong_parameters(self):
        root = Root([1, 0, 1])
        for name in ("root", "other"):
            self.assert_refuses(alike, {"root": root, "other": root}, name, InvalidRoot, NOT_ROOTS)
            good = {"root": root, "other": root, "value": (1, 0, 1)}
            self.assert_refuses(is_alike, good, name, InvalidRoot, NOT_ROOTS)
        self.assert_sequence(alike, [("root", 1, InvalidRoot), ("other", 2, None)])
        self.assert_sequence(is_alike, [("root", 1, InvalidRoot), ("other", 2, None), ("value", None, None)])


class ExtractedTest(Checks):
    def test_whole_numbers(self):
        for many in range(1, 9):
            for number in list(range(0, 300)) + [10 ** 40, 10 ** 40 - 1, 7 ** 56, 7 ** 56 - 1, 7 ** 56 + 1]:
                found = whole_below(number, many)
                self.assertTrue(found ** many <= number < (found + 1) ** many)

    def test_ratios(self):
        for many in range(1, 9):
            for top, bottom in [(0, 1), (1, 1), (2, 3), (10 ** 30 + 1, 7)]:
                self.assertEqual(extracted(Ratio(top ** many, bottom ** many), many), Ratio(top, bottom))
            if many > 1:
                for number in [Ratio(2), Ratio(1, 2), Ratio(-1), Ratio(-4, 9), Ratio(10 ** 56 + 1)]:
                    self.assertIsNone(extracted(number, many))

    def test_told_polynomials(self):
        self.assertEqual(told(Root([1, 0, 4]).nearest()), [Ratio(0), Ratio(2)])
