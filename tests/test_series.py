"""rootsround.series: roots written out, and what is near a polynomial."""

from fractions import Fraction

from rootsround.errors import InvalidMany, InvalidPoly, InvalidRoot, TooMany
from rootsround.polys import degree, plus, times
from rootsround.ratios import Ratio
from rootsround.roots import Root
from rootsround.series import near, written
from tests.helpers import (NOT_INTEGERS, NOT_POLYS, NOT_ROOTS, Checks, Sub, frac, fracs, ratios, some_number, some_poly,
                           some_root, source_of)

NOT_MANY = NOT_INTEGERS + [0, -1, 25, 26, 1000, -24, Ratio(3), Ratio(1, 2), Sub(0), Sub(25)]


def slow_written(root, many):
    """The same numbers by Fractions: each one makes the square right one power further down."""
    poly, half = fracs(root.poly()), root.half
    numbers = [frac(root.nearest()[-1])]
    while len(numbers) < many:
        at = len(numbers)
        square = sum(numbers[i] * numbers[at - i] for i in range(at + 1) if i < at and at - i < at)
        wanted = poly[2 * half - at] if at <= 2 * half else Fraction(0)
        numbers.append((wanted - square) / (2 * numbers[0]))
    return numbers


class WrittenTest(Checks):
    def test_against_fractions(self):
        source = source_of(41)
        for _ in range(60):
            root, many = some_root(source), source.randint(1, 24)
            found = self.assert_pure(written, root, many)
            self.assertIs(found.__class__, list)
            self.assertEqual(len(found), many)
            for number in found:
                self.assertIs(number.__class__, Ratio)
            self.assertEqual([frac(number) for number in found], slow_written(root, many))

    def test_begins_with_the_nearest(self):
        source = source_of(42)
        for _ in range(40):
            root = some_root(source)
            self.assertEqual(written(root, root.half + 1), root.nearest()[::-1])

    def test_squared_it_differs_far_down_alone(self):
        source = source_of(43)
        for _ in range(30):
            root, many = some_root(source), source.randint(1, 24)
            numbers = [frac(number) for number in written(root, many)]
            for power in range(many):
                square = sum(numbers[i] * numbers[power - i] for i in range(power + 1))
                place = root.degree - power
                self.assertEqual(square, frac(root.poly()[place]) if place >= 0 else 0)

    def test_noughts_are_kept(self):
        self.assertEqual(written(Root([1, 0, 0, 0, 1]), 1), [Ratio(1)])
        self.assertEqual(written(Root([1, 0, 0, 0, 1]), 4), [Ratio(1), Ratio(0), Ratio(0), Ratio(0)])
        found = written(many=24, root=Root([1, 0, 0, 0, 1]))
        self.assertEqual([found[4], found[8], found[12]], [Ratio(1, 2), Ratio(-1, 8), Ratio(1, 16)])
        self.assertEqual(len(found), 24)

    def test_bounds(self):
        root = Root([-7, 0, 1])
        for many in (1, 24, Sub(5)):
            self.assertEqual(len(written(root, many)), many)

    def test_wrong_parameters(self):
        good = {"root": Root([1, 0, 1]), "many": 3}
        self.assert_refuses(written, good, "root", InvalidRoot, NOT_ROOTS)
        self.assert_refuses(written, good, "many", InvalidMany, NOT_MANY)
        self.assert_sequence(written, [("root", [1, 0, 1], InvalidRoot), ("many", 25, InvalidMany)])


class NearTest(Checks):
    def test_what_is_left_has_powers_below_nought_alone(self):
        source = source_of(44)
        for _ in range(80):
            root, poly = some_root(source), some_poly(source, source.randint(-1, 12))
            found = self.assert_pure(near, root, poly)
            self.assert_told(found)
            row = fracs(poly)
            numbers = slow_written(root, root.half + len(row) + 1)
            wanted = []
            for power in range(root.half + len(row)):
                wanted.append(sum((row[at] * numbers[at + root.half - power] for at in range(len(row))
                                   if at + root.half - power >= 0), Fraction(0)))
            self.assertEqual(found, ratios(wanted))
            if row:
                self.assertEqual(degree(found), degree(poly) + root.half)

    def test_facts(self):
        source = source_of(45)
        for _ in range(40):
            root = some_root(source)
            first, second = some_poly(source, 5), some_poly(source, 7)
            number = some_number(source)
            self.assertEqual(near(root, [1]), root.nearest())
            self.assertEqual(near(root, plus(first, second)), plus(near(root, first), near(root, second)))
            self.assertEqual(near(root, times(first, [number])), times(near(root, first), [number]))

    def test_noughts(self):
        root = Root([1, 0, 1])
        for nought in [[], (), [0], (Ratio(0),) * 3, [0] * 61]:
            self.assertEqual(near(root, nought), [])

    def test_first_halves_are_near_second_ones(self):
        self.assertEqual(near(Root([0, -2, 0, 0, 1]), [0, 1]), [Ratio(-1), Ratio(0), Ratio(0), Ratio(1)])
        self.assertEqual(near(Root([0, 1, 0, 0, 1]), (0, 1)), [Ratio(1, 2), Ratio(0), Ratio(0), Ratio(1)])

    def test_degrees_20_and_21(self):
        for many in (2, 4, 6, 8):
            root = Root([1] + [0] * (many - 1) + [1])
            found = near(root, [0] * 20 + [1])
            self.assertEqual(degree(found), 20 + many // 2)
            self.assertEqual(near(root, [0] * 20 + [1] + [0] * 40), found)
            for wrong in [[0] * 21 + [1], [1] * 22, [1] * 61, (0,) * 60 + (Ratio(1, 3),)]:
                self.assert_error(TooMany, {"what": "degree", "limit": 20}, near, root, wrong)

    def test_wrong_parameters(self):
        good = {"root": Root([1, 0, 1]), "poly": [1, 2]}
        self.assert_refuses(near, good, "root", InvalidRoot, NOT_ROOTS)
        self.assert_refuses(near, good, "poly", InvalidPoly, NOT_POLYS)
        self.assert_sequence(near, [("root", None, InvalidRoot), ("poly", [None], InvalidPoly)])
        self.assert_sequence(near, [("root", None, InvalidRoot), ("poly", [1] * 30, None)])
        wrong = [1] * 22 + [True]
        self.assert_error(InvalidPoly, {"value": wrong}, near, Root([1, 0, 1]), wrong)
