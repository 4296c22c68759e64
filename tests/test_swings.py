"""rootsround.swings: how units go to and fro on stretches."""

from fractions import Fraction

from rootsround.errors import InvalidNumber, InvalidRoot, InvalidUnit, NotReal
from rootsround.moves import moved_root
from rootsround.polys import put_in
from rootsround.powers import power_unit
from rootsround.ratios import Ratio
from rootsround.roots import Root
from rootsround.swings import inner_counts, swings, turns
from rootsround.units import contrary
from tests.helpers import NOT_NUMBERS, NOT_ROOTS, Checks, frac, frac_plus, frac_times, frac_worth, fracs, ratio
from tests.own import own_least, round_roots
from tests.real import own_all_real, own_made, real_units, samples, with_powers
from tests.test_signs import sturm_count

SWEPT, UNIT = Root([0, -2, 9, -6, 1]), ([-1, 9, -6, 1], [-3, 1])
NOT_SWEPT_UNITS = [None, True, 0, "unit", [], (), ([1], []), ([-1, 9, -6, 1],), [[-1, 9, -6, 1], [-3, 1]],
                   ([-1, 9, -6, 2], [-3, 1]), ([-1, 9, -6, 1], [-3, 2]), ([-1, 9, -6, True], [-3, 1]),
                   ([-1, 9, -6, 1], []), ([0, 1], [1]), object(), SWEPT]
# a Root with two real roots, and one with none, each with a unit
HALF_REAL, HALF_UNIT = Root([0, -2, 0, 0, 1]), ([-1, 0, 0, 1], [0, 1])
NEVER_REAL, NEVER_UNIT = Root([1, 0, 1]), ([0, 1], [1])


def gap_numbers(root):
    """A number below all ends, one in each gap, and one above all ends, found by halving and by Sturm's signs."""
    found = []
    for wanted in range(0, root.degree + 1, 2):
        low, high = Fraction(-10 ** 4), Fraction(10 ** 4)
        assert sturm_count(root.poly(), low, high) == root.degree
        number = low if wanted == 0 else high
        if 0 < wanted < root.degree:
            number = (low + high) / 2
            # the lower end of the gap is among the roots that are counted
            while sturm_count(root.poly(), None, number) != wanted or frac_worth(fracs(root.poly()), number) == 0:
                low, high = (number, high) if sturm_count(root.poly(), None, number) <= wanted else (low, number)
                number = (low + high) / 2
        found.append(number)
    return found


class SwingsTest(Checks):
    def test_swings_and_inner_counts(self):
        for root, unit, _, many, pair in with_powers():
            posts = gap_numbers(root)
            wanted = [sturm_count(unit[0], low, high) for low, high in zip(posts, posts[1:])]
            found = self.assert_pure(swings, root, unit)
            inner = self.assert_pure(inner_counts, root, unit)
            self.assertEqual(found, wanted)
            self.assertEqual(inner, [sturm_count(unit[1], low, high) if len(unit[1]) > 1 else 0
                                     for low, high in zip(posts, posts[1:])])
            for one in (found, inner):
                self.assertIs(one.__class__, list)
                self.assertEqual(len(one), root.half)
                self.assertEqual({number.__class__ for number in one}, {int})
            # together p's degree, each at least 1, inner counts one less
            self.assertEqual(sum(found), len(unit[0]) - 1)
            self.assertGreaterEqual(min(found), 1)
            self.assertEqual(inner, [one - 1 for one in found])
            self.assertEqual(found, [many * one for one in swings(root, pair)])

    def test_forms_of_units(self):
        for root, unit, _, _, _ in with_powers(8, 2):
            wanted = swings(root, unit)
            for other in [(tuple(unit[0]), unit[1] + [0]), (unit[0] + [Ratio(0)], tuple(unit[1])),
                          contrary(root, unit)]:
                self.assertEqual(swings(unit=other, root=root), wanted)
                self.assertEqual(inner_counts(unit=other, root=root), [one - 1 for one in wanted])

    def test_great_swings(self):
        unit = power_unit(SWEPT, UNIT, 5)
        self.assertEqual([swings(SWEPT, unit), inner_counts(SWEPT, unit)], [[5, 10], [4, 9]])
        unit = power_unit(SWEPT, unit, 4)
        self.assertEqual([swings(SWEPT, unit), inner_counts(SWEPT, unit)], [[20, 40], [19, 39]])
        pair = power_unit(Root([-1, 0, 1]), power_unit(Root([-1, 0, 1]), ([0, 1], [1]), 5), 5)
        self.assertEqual(swings(Root([-1, 0, 1]), pair), [25])

    def test_all_round_roots_that_are_real(self):
        met = 0
        for root, many, _, _ in round_roots():
            p, q, _, _ = own_least(root, many)
            unit = [ratio(one) for one in p], [ratio(one) for one in q]
            if own_all_real(root):
                met += 1
                self.assertEqual(sum(swings(root, unit)), many)
            else:
                self.assert_error(NotReal, {}, swings, root, unit)
                self.assert_error(NotReal, {}, inner_counts, root, unit)
                self.assert_error(NotReal, {}, turns, root, unit, 0)
        self.assertGreater(met, 2)

    def test_moved(self):
        for root, unit, _, _, _ in with_powers(8, 2):
            for first in (2, Ratio(-1, 3)):
                moved = moved_root(root, first, 5)
                halves = put_in(unit[0], [5, first]), put_in(unit[1], [5, first])
                wanted = swings(root, unit)
                self.assertEqual(swings(moved, halves), wanted if first == 2 else wanted[::-1])

    def test_wrong_parameters(self):
        for function in (swings, inner_counts):
            good = {"root": SWEPT, "unit": UNIT}
            self.assert_refuses(function, good, "root", InvalidRoot, NOT_ROOTS)
            self.assert_refuses(function, good, "unit", InvalidUnit, NOT_SWEPT_UNITS)
            self.assert_sequence(function, [("root", None, InvalidRoot), ("unit", None, None)])
            for root, unit in [(HALF_REAL, HALF_UNIT), (NEVER_REAL, NEVER_UNIT)]:
                self.assert_error(NotReal, {}, function, root, unit)
                self.assert_refuses(function, {"root": root, "unit": unit}, "unit", InvalidUnit, NOT_SWEPT_UNITS[:12])


class TurnsTest(Checks):
    def test_turns(self):
        met = set()
        for root, unit, number, _, _ in with_powers(8, 3):
            body = fracs(root.poly())
            for place in samples(root)[::2] + samples(root)[-3:] + [Fraction(0)]:
                reached = frac_worth(fracs(unit[0]), place)
                left = reached * reached - number
                wanted = (reached > 0) - (reached < 0), (left > 0) - (left < 0)
                found = self.assert_pure(turns, root, unit, ratio(place))
                self.assertIs(found.__class__, tuple)
                self.assertEqual(found, wanted)
                self.assertEqual([one.__class__ for one in found], [int, int])
                met.add(wanted)
                # above the number just in gaps and beyond both ends, just it at ends and where q is 0
                self.assertEqual(found[1] == 1, frac_worth(body, place) > 0 and frac_worth(fracs(unit[1]), place) != 0)
                self.assertEqual(found[1] == 0, frac_worth(body, place) * frac_worth(fracs(unit[1]), place) == 0)
        self.assertEqual(met, {(1, 1), (1, 0), (1, -1), (0, -1), (-1, 1), (-1, 0), (-1, -1)})

    def test_p_does_not_change_its_sign_in_a_gap(self):
        for root, unit, _, _, _ in with_powers(8, 2):
            posts = gap_numbers(root)
            wanted = swings(root, unit)
            signs = [turns(root, unit, ratio(post)) for post in posts]
            self.assertEqual({one[1] for one in signs}, {1})
            for at, many in enumerate(wanted):
                self.assertEqual(signs[at + 1][0], signs[at][0] * (-1) ** many)

    def test_values_of_numbers(self):
        self.assertEqual(turns(SWEPT, UNIT, 3), (-1, 0))
        self.assertEqual(turns(SWEPT, UNIT, Ratio(3)), (-1, 0))
        self.assertEqual(turns(number=Ratio(5, 2), unit=UNIT, root=SWEPT), (-1, -1))
        unit = [ratio(-2 * frac(one)) for one in UNIT[0]], [Ratio(6), Ratio(-2)]
        self.assertEqual(turns(SWEPT, unit, 3), (1, 0))

    def test_the_number_is_the_norm(self):
        for root, unit, number in real_units():
            squared = frac_times(fracs(unit[1]), fracs(unit[1]))
            left = frac_plus(frac_times(fracs(unit[0]), fracs(unit[0])), [-number])
            self.assertEqual(left, frac_times(fracs(root.poly()), squared))
            self.assertGreater(number, 0)
        root, unit = own_made([0, 1], Fraction(4))
        self.assertEqual([turns(root, unit, one) for one in (-3, -2, -1, 0, 1, 2, 3)],
                         [(-1, 1), (-1, 0), (-1, -1), (0, -1), (1, -1), (1, 0), (1, 1)])

    def test_wrong_parameters(self):
        good = {"root": SWEPT, "unit": UNIT, "number": 1}
        self.assert_refuses(turns, good, "root", InvalidRoot, NOT_ROOTS)
        self.assert_refuses(turns, good, "unit", InvalidUnit, NOT_SWEPT_UNITS)
        self.assert_refuses(turns, good, "number", InvalidNumber, NOT_NUMBERS)
        self.assert_sequence(turns, [("root", None, InvalidRoot), ("unit", None, None), ("number", None, None)])
        self.assert_error(InvalidUnit, {"value": None}, turns, SWEPT, None, None)
        real = {"root": HALF_REAL, "unit": HALF_UNIT, "number": 1}
        self.assert_error(NotReal, {}, turns, **real)
        self.assert_refuses(turns, real, "number", InvalidNumber, NOT_NUMBERS)
