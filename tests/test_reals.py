"""rootsround.reals: roots that are all real, and their stretches."""

from fractions import Fraction

from rootsround.errors import InvalidNumber, InvalidRoot, NotReal
from rootsround.moves import moved_root, scaled_root
from rootsround.ratios import Ratio
from rootsround.reals import between, is_all_real, stretch_of
from rootsround.roots import Root
from tests.helpers import NOT_NUMBERS, NOT_ROOTS, Checks, frac, frac_worth, fracs, ratio, some_root, source_of
from tests.own import numbers_of, root_of
from tests.real import NOT_REAL, own_all_real, own_stretch, real_roots, samples
from tests.test_signs import digits, sturm_count

SWEPT = Root([0, -2, 9, -6, 1])


class AllRealTest(Checks):
    def test_all_real(self):
        for root in real_roots():
            self.assert_bool(is_all_real(root), True)
        self.assertEqual({root.degree for root in real_roots()}, {2, 4, 6, 8})

    def test_others(self):
        for text in NOT_REAL:
            self.assert_bool(is_all_real(root_of(text)), False)
        self.assertEqual({root_of(text).degree for text in NOT_REAL}, {2, 4, 6, 8})

    def test_any_roots(self):
        source = source_of(201)
        for _ in range(150):
            root = some_root(source)
            self.assert_bool(self.assert_pure(is_all_real, root), own_all_real(root))

    def test_moved_and_scaled(self):
        for root in real_roots() + [root_of(text) for text in NOT_REAL]:
            moved = moved_root(scaled_root(root, Ratio(-2, 7)), -3, Ratio(5, 2))
            self.assertIs(is_all_real(moved), is_all_real(root))

    def test_wrong_parameters(self):
        self.assert_refuses(is_all_real, {"root": SWEPT}, "root", InvalidRoot, NOT_ROOTS)
        self.assert_bool(is_all_real(root=SWEPT), True)


class StretchTest(Checks):
    def check(self, root, number, wanted):
        for value in [ratio(number)] + ([int(number)] if number.denominator == 1 else []):
            found = self.assert_pure(stretch_of, root, value)
            self.assertEqual(found, wanted)
            self.assertIs(found.__class__, None.__class__ if wanted is None else int)
        self.assertEqual(stretch_of(number=ratio(number), root=root), wanted)

    def test_numbers_on_stretches_in_gaps_and_beyond(self):
        met = set()
        for root in real_roots():
            for number in samples(root):
                wanted = own_stretch(root, number)
                met.add(wanted)
                self.check(root, number, wanted)
        self.assertEqual(met, {None, 0, 1, 2, 3})

    def test_ends_and_what_is_close_to_them(self):
        for ends in [[Fraction(-1, 2), Fraction(3)], [Fraction(0), Fraction(1, 3), Fraction(1, 2), Fraction(7)],
                     [Fraction(one) for one in (-9, -4, -1, 0, 2, 3)],
                     [Fraction(one, 5) for one in (-40, -39, -3, -2, 0, 1, 7, 999)]]:
            poly = [Fraction(1)]
            for end in ends:
                poly = [a - end * b for a, b in zip([Fraction(0)] + poly, poly + [Fraction(0)])]
            root = Root([ratio(number) for number in poly])
            small = Fraction(1, 10 ** 5)
            for at, end in enumerate(ends):
                self.check(root, end, at // 2)
                self.check(root, end + small, at // 2 if at % 2 == 0 else None)
                self.check(root, end - small, at // 2 if at % 2 == 1 else None)
                self.check(root, (end + ends[at - 1]) / 2, None if at == 0 and frac_worth(poly, (
                    end + ends[-1]) / 2) > 0 else own_stretch(root, (end + ends[at - 1]) / 2))
            self.check(root, ends[0] - 1000, None)
            self.check(root, ends[-1] + 1000, None)

    def test_ends_that_are_no_numbers(self):
        root = Root([6, 0, -5, 0, 1])
        for number, wanted in [("-1.7321", None), ("-1.732", 0), ("-1.4142", None), ("-1.4143", 0), ("-1.7", 0),
                               ("-2", None), ("0", None), ("1.73", 1), ("1.733", None), ("1.4142", None)]:
            self.assertEqual(own_stretch(root, Fraction(number)), wanted)
            self.check(root, Fraction(number), wanted)

    def test_moved_and_scaled(self):
        for root in real_roots()[::2]:
            for first, second in [(Fraction(2), Fraction(-1, 3)), (Fraction(-1, 2), Fraction(5))]:
                moved = scaled_root(moved_root(root, ratio(first), ratio(second)), -3)
                for number in samples(root)[::3]:
                    place = stretch_of(root, ratio(number))
                    if place is not None and first < 0:
                        place = root.half - 1 - place
                    self.assertEqual(stretch_of(moved, ratio((number - second) / first)), place)

    def test_not_real(self):
        for text in NOT_REAL:
            for number in (0, Ratio(1, 2), -100):
                self.assert_error(NotReal, {}, stretch_of, root_of(text), number)

    def test_wrong_parameters(self):
        good = {"root": SWEPT, "number": 1}
        self.assert_refuses(stretch_of, good, "root", InvalidRoot, NOT_ROOTS)
        self.assert_refuses(stretch_of, good, "number", InvalidNumber, NOT_NUMBERS)
        self.assert_refuses(stretch_of, {"root": root_of(NOT_REAL[0]), "number": 1}, "number", InvalidNumber,
                            NOT_NUMBERS)
        self.assert_sequence(stretch_of, [("root", None, InvalidRoot), ("number", "1", None)])


class BetweenTest(Checks):
    def test_between(self):
        for root in real_roots():
            posts = self.assert_pure(between, root)
            self.assertIs(posts.__class__, list)
            self.assertEqual(len(posts), root.degree + 1)
            body = root.poly()
            for at, post in enumerate(posts):
                self.assertIs(post.__class__, Ratio)
                self.assertLessEqual(digits(post), 2000)
                self.assertNotEqual(frac_worth(fracs(body), frac(post)), 0)
                if at > 0:
                    self.assertLess(frac(posts[at - 1]), frac(post))
                    self.assertEqual(sturm_count(body, frac(posts[at - 1]), frac(post)), 1)
            self.assertEqual(between(root=root), posts)

    def test_roots_close_to_one_another(self):
        small = Ratio(1, 999999)
        for poly in [[-small, 0, 1], [small * small, small * -3, 1],
                     numbers_of("999999 -2000001 0 0 1/4"), numbers_of("1/999998 0 -1 0 1"),
                     numbers_of("-1/999998 0 1 0 -2 0 1")]:
            root = Root(poly)
            if not own_all_real(root):
                self.assert_error(NotReal, {}, between, root)
                continue
            posts = between(root)
            self.assertEqual(len(posts), root.degree + 1)
            for low, high in zip(posts, posts[1:]):
                self.assertEqual(sturm_count(root.poly(), frac(low), frac(high)), 1)

    def test_not_real(self):
        for text in NOT_REAL:
            self.assert_error(NotReal, {}, between, root_of(text))

    def test_wrong_parameters(self):
        self.assert_refuses(between, {"root": SWEPT}, "root", InvalidRoot, NOT_ROOTS)
