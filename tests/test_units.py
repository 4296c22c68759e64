"""rootsround.units: units, their numbers, contraries and products."""

from rootsround.errors import InvalidRoot, InvalidUnit, TooMany
from rootsround.polys import degree, scaled, told
from rootsround.ratios import Ratio
from rootsround.roots import Root
from rootsround.units import contrary, is_unit, times_unit, unit_number
from tests.helpers import NOT_POLYS, NOT_ROOTS, Checks, Sub, fracs, ratio, ratios, some_poly, source_of
from tests.own import FAR_ROUND, NEVER, own_least, own_norm, own_product, root_of, round_roots

PLUS_ONE = Root([1, 0, 1])
UNIT = ([0, 1], [1])
# values that are no unit of the root of x x + 1
NOT_UNITS = [
    None, True, False, 0, 1, Ratio(1), "unit", b"", [], (), {}, {1}, object(), PLUS_ONE, tuple,
    [[0, 1], [1]], ([0, 1],), ([0, 1], [1], [1]), (([0, 1], [1]),), ([0, 1], 1), (1, [1]), ("01", "1"), (None, None),
    ([0, 1], []), ([0, 1], [0]), ([1], []), ([1], [0, 0]), ([], []), ([], [1]), ([0, 2], [1]), ([0, 1], [2]),
    ([1], [1]),
    ([1, 1], [1]), ([0, 1], [1, 1]), ([0, 1], [True]), ([False, 1], [1]), ([0, 1], [None]), ([0, "1"], [1]),
    ([0, 1] + [0] * 60, [1]), ([0, 1], [1] + [0] * 61), ([0, 0, 1], [0, 1]), ([1, 0, 2], [0, 1]), ([0, 1], {1}),
    ([0, 1], [1, [1]]), ([1] * 61, [1] * 60), ([0] * 60 + [1], [0] * 59 + [1]), ({0: 1}, [1]), (range(2), [1])]


def some_units(source, root, pair, most=30):
    """Powers of a unit times numbers, and their contraries, as told polynomials."""
    found, unit = [], pair
    while len(unit[0]) - 1 <= most:
        number = Ratio(source.choice([-3, -1, 1, 2, 5]), source.randint(1, 4))
        first, second = scaled(ratios(unit[0]), number), scaled(ratios(unit[1]), number)
        found.append((first, second))
        found.append((first, scaled(second, -1)))
        unit = own_product(root, unit, pair)
    return found


def rooted_units(seed, most=30):
    """Tuples (Root, units) for all kinds of round roots."""
    source = source_of(seed)
    rows = []
    for root, many, _, _ in round_roots():
        p, q, _, _ = own_least(root, many)
        rows.append((root, some_units(source, root, (p, q), most)))
    return rows


class UnitTest(Checks):
    def test_units(self):
        for root, units in rooted_units(91, 20):
            for first, second in units:
                wanted = own_norm(root, first, second)
                self.assertEqual(len(wanted), 1)
                for value in [(first, second), (tuple(first), second + [0]), (first + [Ratio(0)], tuple(second))]:
                    self.assert_bool(is_unit(root, value), True)
                    found = unit_number(root, value)
                    self.assertIs(found.__class__, Ratio)
                    self.assertEqual(found, ratio(wanted[0]))
                self.assert_bool(is_unit(value=(first, second), root=root), True)

    def test_what_is_nearly_a_unit(self):
        source = source_of(92)
        for root, units in rooted_units(93, 12):
            for first, second in units[:4]:
                for at in range(len(first)):
                    spoiled = list(first)
                    spoiled[at] = spoiled[at] + source.choice([-1, 1, Ratio(1, 7)])
                    self.assert_bool(is_unit(root, (spoiled, second)), False)
                self.assert_bool(is_unit(root, (first, scaled(second, 2))), False)
                self.assert_bool(is_unit(root, (second, first)), False)
                self.assert_bool(is_unit(root, [first, second]), False)
                self.assert_bool(is_unit(root, (first, [])), False)

    def test_any_polynomials(self):
        source = source_of(94)
        for root in [row[0] for row in round_roots()[::3]] + [root_of(text) for text in NEVER]:
            for _ in range(5):
                value = some_poly(source, source.randint(-1, 6)), some_poly(source, source.randint(-1, 3))
                wanted = len(own_norm(root, *value)) == 1 and fracs(value[1]) != []
                self.assert_bool(is_unit(root, value), wanted)

    def test_units_of_degree_1_with_any_numbers(self):
        for number in [1, -3, Ratio(5, 7)]:
            for root in [Root([number, 0, 1]), Root([number, 0, 4]), Root([number, 7, 9])]:
                side = root.nearest()
                value = (side, [1])
                self.assert_bool(is_unit(root, value), True)
                self.assertEqual(unit_number(root, value), -root.rest()[0])

    def test_values_of_all_kinds(self):
        for value in NOT_UNITS:
            self.assert_bool(is_unit(PLUS_ONE, value), False)
        for value in NOT_POLYS:
            self.assert_bool(is_unit(PLUS_ONE, ([0, 1], value)), False)
            self.assert_bool(is_unit(PLUS_ONE, (value, [1])), False)
        for value in [UNIT, ((0, 1), (1,)), ([0, Sub(1)], [Ratio(1)]), ([0, -3, 0], [3, 0])]:
            self.assert_bool(is_unit(PLUS_ONE, value), True)

    def test_degree_60(self):
        root, pair = Root([-1, 0, 1]), ([0, 1], [1])
        unit = pair
        for _ in range(59):
            unit = own_product(root, unit, pair)
        unit = ratios(unit[0]), ratios(unit[1])
        self.assertEqual(degree(unit[0]), 60)
        self.assert_bool(is_unit(root, unit), True)
        self.assertEqual(unit_number(root, unit), Ratio(1))
        self.assert_bool(is_unit(root, ([1] + unit[0][1:], unit[1])), unit[0][0] == Ratio(1))
        self.assert_bool(is_unit(root, ([2] + unit[0][1:], unit[1])), False)

    def test_great_roots(self):
        for text, many, _, _ in FAR_ROUND:
            root = root_of(text)
            p, q, _, _ = own_least(root, many)
            self.assert_bool(is_unit(root, (ratios(p), ratios(q))), True)

    def test_wrong_parameters(self):
        self.assert_refuses(is_unit, {"root": PLUS_ONE, "value": UNIT}, "root", InvalidRoot, NOT_ROOTS)
        for function in (unit_number, contrary):
            good = {"root": PLUS_ONE, "unit": UNIT}
            self.assert_refuses(function, good, "root", InvalidRoot, NOT_ROOTS)
            self.assert_refuses(function, good, "unit", InvalidUnit, NOT_UNITS)
            self.assert_sequence(function, [("root", None, InvalidRoot), ("unit", 5, None)])


class ContraryTest(Checks):
    def test_contraries(self):
        for root, units in rooted_units(95, 8):
            for first, second in units:
                found = self.assert_pure(contrary, root, (first, second))
                self.assertIs(found.__class__, tuple)
                self.assertEqual(found, (first, [-number for number in second]))
                for half in found:
                    self.assert_told(half)
                self.assertEqual(unit_number(root, found), unit_number(root, (first, second)))
                self.assertEqual(contrary(root, found), (first, second))
        self.assertEqual(contrary(unit=((0, 1, 0), (1, 0)), root=PLUS_ONE), ([Ratio(0), Ratio(1)], [Ratio(-1)]))


class TimesTest(Checks):
    def test_against_fractions(self):
        source = source_of(96)
        for root, units in rooted_units(97, 16):
            for _ in range(4):
                unit, other = source.choice(units), source.choice(units)
                found = self.assert_pure(times_unit, root, unit, other)
                self.assertIs(found.__class__, tuple)
                first, second = own_product(root, unit, other)
                self.assertEqual(found, (ratios(first), ratios(second)))
                for half in found:
                    self.assert_told(half)
                self.assertEqual(found, times_unit(root, other, unit))
                number = unit_number(root, unit) * unit_number(root, other)
                self.assertEqual(own_norm(root, *found), fracs([number]))
                self.assert_bool(is_unit(root, found), second != [])

    def test_brackets(self):
        for root, units in rooted_units(98, 20):
            one, turned, two = units[0], units[1], units[2 % len(units)]
            for first, second, third in [(one, one, one), (one, one, two), (turned, turned, turned),
                                         (two, two, turned)]:
                if degree(first[0]) + degree(second[0]) + degree(third[0]) <= 60:
                    self.assertEqual(times_unit(root, times_unit(root, first, second), third),
                                     times_unit(root, third, times_unit(root, second, first)))

    def test_with_contraries_the_second_half_is_nought(self):
        for root, units in rooted_units(99, 20):
            for first, second in units:
                number = Ratio(-2, 3)
                other = scaled(first, number), scaled(second, -number)
                found = times_unit(root, (first, second), other)
                self.assertEqual(found, ([unit_number(root, (first, second)) * number], []))
                self.assert_bool(is_unit(root, found), False)

    def test_degrees_60_and_61(self):
        root, pair = Root([-1, 0, 1]), ([0, 1], [1])
        powers = [None, pair]
        while len(powers) < 62:
            first, second = own_product(root, powers[-1], pair)
            powers.append((ratios(first), ratios(second)))
        self.assertEqual(times_unit(root, powers[30], powers[30]), powers[60])
        self.assertEqual(times_unit(root, powers[59], powers[1]), powers[60])
        self.assertEqual(times_unit(root, powers[1], powers[59]), powers[60])
        told_error = {"what": "degree", "limit": 60}
        for one, other in [(31, 30), (30, 31), (60, 1), (1, 60), (60, 60)]:
            self.assert_error(TooMany, told_error, times_unit, root, powers[one], powers[other])
        turned = powers[31][0], scaled(powers[31][1], -1)
        self.assert_error(TooMany, told_error, times_unit, root, powers[31], turned)

    def test_lists_tuples_and_noughts_at_the_end(self):
        wanted = told([1, 0, 2]), told([0, 2])
        self.assertEqual(times_unit(PLUS_ONE, ((0, 1, 0), [1, Ratio(0)]), ([0, Ratio(1)], (1,))), wanted)
        self.assertEqual(times_unit(other_unit=UNIT, root=PLUS_ONE, unit=UNIT), wanted)

    def test_wrong_parameters(self):
        good = {"root": PLUS_ONE, "unit": UNIT, "other_unit": UNIT}
        self.assert_refuses(times_unit, good, "root", InvalidRoot, NOT_ROOTS)
        self.assert_refuses(times_unit, good, "unit", InvalidUnit, NOT_UNITS)
        self.assert_refuses(times_unit, good, "other_unit", InvalidUnit, NOT_UNITS)
        self.assert_sequence(times_unit, [("root", 1, InvalidRoot), ("unit", 2, None), ("other_unit", 3, None)])
        wrong = [UNIT]
        self.assert_error(InvalidUnit, {"value": wrong}, times_unit, PLUS_ONE, wrong, None)
        self.assert_error(InvalidUnit, {"value": wrong}, times_unit, PLUS_ONE, UNIT, wrong)

    def test_units_of_another_root(self):
        self.assert_error(InvalidUnit, {"value": UNIT}, times_unit, Root([2, 0, 1, 0, 1]), UNIT, UNIT)
        self.assert_bool(is_unit(Root([-1, 0, 1]), UNIT), True)
        self.assert_bool(is_unit(Root([1, 0, 4]), UNIT), False)
