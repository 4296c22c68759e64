"""rootsround.least: least units, chains half round and whole round, places of units."""

from rootsround.errors import InvalidMany, InvalidRoot, InvalidUnit
from rootsround.least import half_round, is_least, least_unit, place_of, whole_round
from rootsround.moves import scaled_root
from rootsround.polys import degree, scaled
from rootsround.ratios import Ratio
from rootsround.roots import Root
from tests.helpers import NOT_INTEGERS, NOT_ROOTS, Checks, Sub, frac, fracs, ratio, ratios, some_root, source_of
from tests.own import (FAR_ROUND, NEVER, own_chain, own_least, own_norm, own_product, root_of, round_roots)
from tests.test_units import NOT_UNITS, PLUS_ONE, UNIT, rooted_units

NOT_MOST = NOT_INTEGERS + [-1, 13, 14, 1000, Ratio(3), Ratio(1, 2), Sub(13), Sub(-1)]
LOOKS = (least_unit, half_round, whole_round)


class LeastTest(Checks):
    def test_against_fractions(self):
        for root, many, steps, number in round_roots():
            p, q, own_steps, own_number = own_least(root, many)
            self.assertEqual((own_steps, ratio(own_number)), (steps, number))
            for most in range(many, 13):
                found = self.assert_pure(least_unit, root, most)
                self.assertEqual(found, (ratios(p), ratios(q)))
                self.assertEqual(half_round(root, most), (steps, number))
                self.assertEqual(whole_round(root, most), steps if number == Ratio(1) else 2 * steps)
            self.assertIs(found.__class__, tuple)
            for half in found:
                self.assert_told(half)
            self.assertEqual(degree(found[0]), many)
            self.assertEqual(found[1][-1], Ratio(1))
            self.assertEqual(found[0][-1], root.nearest()[-1])
            for function in LOOKS:
                for most in range(many):
                    self.assertIsNone(function(root, most))

    def test_kinds(self):
        for root, many, _, _ in round_roots():
            found = self.assert_pure(half_round, root, many)
            self.assertEqual([found.__class__, len(found)], [tuple, 2])
            self.assertEqual([found[0].__class__, found[1].__class__], [int, Ratio])
            self.assertIs(whole_round(root, many).__class__, int)

    def test_whole_round_is_where_the_state_comes_again(self):
        for root, many, steps, _ in round_roots():
            if steps > 8:
                continue
            found = whole_round(root, many)
            places = own_chain(root, found + 2)
            again = [at for at in range(1, found + 1) if places[at + 1][:2] == places[1][:2]]
            self.assertEqual(again, [found])

    def test_the_number_of_the_least_unit(self):
        for root, many, steps, number in round_roots():
            p, q = least_unit(root, many)
            factor = own_norm(root, p, q)[0] / frac(number) * (-1) ** steps
            self.assertEqual(Root([-1, 0, ratio(factor)]).degree, 2)
            if steps % 2 == 0:
                self.assertEqual(number, Ratio(1))
            if root.degree == 2:
                self.assertEqual(steps, 1)

    def test_never_round_within_12(self):
        source = source_of(111)
        roots = [root_of(text) for text in NEVER] + [root_of(row[0]) for row in FAR_ROUND if row[1] > 12]
        for root in roots:
            for function in LOOKS:
                self.assertIsNone(function(root, 12))
        for _ in range(20):
            root = some_root(source, (2, 4))
            known = own_least(root, 6)
            found = least_unit(root, 6)
            self.assertEqual(found, None if known is None else (ratios(known[0]), ratios(known[1])))
        for text, many, steps, number in FAR_ROUND:
            if many <= 12:
                self.assertEqual(half_round(root_of(text), 12)[0], steps)
                self.assertEqual(str(half_round(root_of(text), many)[1]), number)
                self.assertIsNone(half_round(root_of(text), many - 1))

    def test_roots_that_a_great_prime_does_not_keep(self):
        great = 2 ** 61 - 1
        for root, many, steps, number in round_roots()[::4]:
            for side in (great, Ratio(2, great)):
                far = scaled_root(root, side)
                wanted = number if steps % 2 == 0 else number * side * side
                for most in range(13):
                    self.assertEqual(half_round(far, most), (steps, wanted) if most >= many else None)
                p, q = least_unit(root, many)
                self.assertEqual(least_unit(far, 12), (scaled(p, side), q))
        for text in NEVER:
            far = scaled_root(root_of(text), great)
            for most in range(11 if far.degree == 4 else 8):
                self.assertIsNone(least_unit(far, most))
        for poly in [[-great, 0, 0, 0, 1], [Ratio(1, great), 0, 0, 0, 1], [great, great, 0, 0, 1]]:
            found = least_unit(Root(poly), 2)
            self.assertEqual(found is None, poly[1] != 0)

    def test_bounds(self):
        root = Root([-2, 0, 1])
        for function in LOOKS:
            self.assertIsNone(function(root, 0))
            self.assertIsNotNone(function(most=12, root=root))
            self.assertEqual(function(root, Sub(3)), function(root, 1))

    def test_wrong_parameters(self):
        good = {"root": Root([1, 0, 1]), "most": 3}
        for function in LOOKS:
            self.assert_refuses(function, good, "root", InvalidRoot, NOT_ROOTS)
            self.assert_refuses(function, good, "most", InvalidMany, NOT_MOST)
            self.assert_sequence(function, [("root", [1, 0, 1], InvalidRoot), ("most", 13, None)])


class PlaceTest(Checks):
    def test_is_least(self):
        for root, units in rooted_units(112, 18):
            for at, unit in enumerate(units):
                self.assert_bool(self.assert_pure(is_least, root, unit), at < 2)
        for text, many, _, _ in FAR_ROUND:
            p, q, _, _ = own_least(root_of(text), many)
            self.assert_bool(is_least(root_of(text), (ratios(p), ratios(q))), True)

    def rebuilt(self, root, pair, number, power):
        """The number times the power of the least unit, or of its contrary divided by its number."""
        base = pair
        if power < 0:
            own = own_norm(root, *pair)[0]
            base = [one / own for one in fracs(pair[0])], [-one / own for one in fracs(pair[1])]
            base = ratios(base[0]), ratios(base[1])
        unit = base
        for _ in range(abs(power) - 1):
            unit = own_product(root, unit, base)
            unit = ratios(unit[0]), ratios(unit[1])
        return scaled(unit[0], number), scaled(unit[1], number)

    def test_places(self):
        for root, units in rooted_units(113, 22):
            p, q, _, _ = own_least(root, 12)
            pair = ratios(p), ratios(q)
            for at, unit in enumerate(units):
                number, power = self.assert_pure(place_of, root, unit)
                self.assertEqual([number.__class__, power.__class__], [Ratio, int])
                self.assertEqual(power, (at // 2 + 1) * (1 if at % 2 == 0 else -1))
                self.assertEqual(self.rebuilt(root, pair, number, power), unit)
            self.assertIs(place_of(root, units[0]).__class__, tuple)

    def test_places_of_least_ones(self):
        for text, many, _, _ in FAR_ROUND:
            root = root_of(text)
            p, q, _, _ = own_least(root, many)
            pair = ratios(p), ratios(q)
            own = ratio(own_norm(root, p, q)[0])
            self.assertEqual(place_of(root, pair), (Ratio(1), 1))
            self.assertEqual(place_of(root, (scaled(pair[0], -5), scaled(pair[1], -5))), (Ratio(-5), 1))
            self.assertEqual(place_of(root, (pair[0], scaled(pair[1], -1))), (own, -1))
            self.assertEqual(place_of(root, (scaled(pair[0], -1), pair[1])), (-own, -1))

    def test_places_to_60(self):
        root = Root([1, 0, 4])
        first, second = [0, 2], [1]
        unit = first, second
        for power in range(1, 61):
            told_unit = ratios(unit[0]), ratios(unit[1])
            self.assertEqual(place_of(root, told_unit), (Ratio(1), power))
            turned = told_unit[0], scaled(told_unit[1], Ratio(-1))
            # the least unit has the number -1
            self.assertEqual(place_of(root, turned), (Ratio((-1) ** power), -power))
            unit = own_product(root, unit, (first, second))

    def test_lists_tuples_and_noughts_at_the_end(self):
        for unit in [((0, Ratio(3)), (3, 0)), ([0, 3, 0], [Ratio(3)])]:
            self.assertEqual(place_of(PLUS_ONE, unit), (Ratio(3), 1))
            self.assertEqual(place_of(unit=unit, root=PLUS_ONE), (Ratio(3), 1))
            self.assert_bool(is_least(unit=unit, root=PLUS_ONE), True)

    def test_wrong_parameters(self):
        good = {"root": PLUS_ONE, "unit": UNIT}
        for function in (is_least, place_of):
            self.assert_refuses(function, good, "root", InvalidRoot, NOT_ROOTS)
            self.assert_refuses(function, good, "unit", InvalidUnit, NOT_UNITS)
            self.assert_sequence(function, [("root", None, InvalidRoot), ("unit", 5, None)])
