"""rootsround.ratios: NUMBERS, Ratios and how they are reckoned."""

from fractions import Fraction

from rootsround.errors import DividedByZero, InvalidNumber
from rootsround.ratios import Ratio, is_number
from tests.helpers import NOT_INTEGERS, NOT_LISTS, NOT_NUMBERS, Checks, Sub, frac, ratio, some_number, source_of


class MadeTest(Checks):
    def test_numbers(self):
        for value in [0, -1, 10 ** 40, Sub(2), Ratio(0), Ratio(1, 2), Ratio(-10 ** 40, 3)]:
            self.assert_bool(is_number(value), True)
            self.assert_bool(is_number(value=value), True)
        for value in NOT_NUMBERS:
            with self.subTest(value=value):
                self.assert_bool(is_number(value), False)

    def test_lowest_terms(self):
        for top in range(-12, 13):
            for bottom in range(-12, 13):
                if bottom == 0:
                    continue
                made, wanted = Ratio(top, bottom), Fraction(top, bottom)
                self.assertEqual((made.top, made.bottom), (wanted.numerator, wanted.denominator))

    def test_great_numbers(self):
        made = Ratio(6 * 10 ** 300, -4 * 10 ** 299)
        self.assertEqual((made.top, made.bottom), (-15, 1))
        made = Ratio(3 ** 1000, 7 ** 900)
        self.assertEqual((made.top, made.bottom), (3 ** 1000, 7 ** 900))

    def test_by_name_and_default(self):
        self.assertEqual(Ratio(top=4, bottom=-6), Ratio(-2, 3))
        self.assertEqual(Ratio(bottom=5, top=10), Ratio(2))
        self.assertEqual((Ratio(7).top, Ratio(7).bottom), (7, 1))

    def test_parts_are_plain_integers(self):
        for made in [Ratio(Sub(3)), Ratio(Sub(3), Sub(1)), Ratio(-4, 2), Ratio(0, 9)]:
            self.assertIs(made.top.__class__, int)
            self.assertIs(made.bottom.__class__, int)
            self.assertIs(made.sign.__class__, int)

    def test_sign_and_whole(self):
        self.assertEqual([Ratio(k, 3).sign for k in (-7, -1, 0, 1, 9)], [-1, -1, 0, 1, 1])
        for made, wanted in [(Ratio(4, 2), True), (Ratio(0, 5), True), (Ratio(1, 2), False), (Ratio(-3, -3), True)]:
            self.assert_bool(made.is_whole, wanted)

    def test_wrong_parts(self):
        wrong = NOT_INTEGERS + [Ratio(1, 2)]
        self.assert_refuses(Ratio, {"top": 1, "bottom": 2}, "top", InvalidNumber, wrong)
        self.assert_refuses(Ratio, {"top": 1, "bottom": 2}, "bottom", InvalidNumber, wrong + [0])
        self.assert_sequence(Ratio, [("top", "a", InvalidNumber), ("bottom", 0, InvalidNumber)])
        self.assert_sequence(Ratio, [("top", True, InvalidNumber), ("bottom", "b", InvalidNumber)])
        for value in wrong:
            self.assert_error(InvalidNumber, {"value": value}, Ratio, value)

    def test_properties_cannot_be_set(self):
        made = Ratio(1, 2)
        for name in ["top", "bottom", "sign", "is_whole"]:
            with self.assertRaises(AttributeError):
                setattr(made, name, 3)
        self.assertEqual(made, Ratio(1, 2))


class ReckonedTest(Checks):
    def test_against_fractions(self):
        source = source_of(1)
        for _ in range(400):
            first = ratio(frac(some_number(source, 30, 20)))
            second = some_number(source, 30, 20)
            ours, theirs = frac(first), frac(second)
            self.assertEqual(first + second, ratio(ours + theirs))
            self.assertEqual(first - second, ratio(ours - theirs))
            self.assertEqual(first * second, ratio(ours * theirs))
            self.assertEqual(-first, ratio(-ours))
            self.assertEqual(first.size(), ratio(abs(ours)))
            self.assert_bool(first.is_below(second), ours < theirs)
            self.assert_bool(first.is_at_most(second), ours <= theirs)
            if theirs != 0:
                self.assertEqual(first.over(second), ratio(ours / theirs))

    def test_integers_on_the_left(self):
        half = Ratio(1, 2)
        self.assertEqual([3 + half, 3 - half, 3 * half, 0 * half], [Ratio(7, 2), Ratio(5, 2), Ratio(3, 2), Ratio(0)])
        for value in [3 + half, 3 - half, 3 * half, half + 3, half - 3, half * 3, -half, half.size(), half.over(1)]:
            self.assertIs(value.__class__, Ratio)

    def test_great_numbers_are_exact(self):
        great = Ratio(10 ** 400 + 1, 3 ** 500)
        self.assertEqual(great - great, Ratio(0))
        self.assertEqual((great + 1 - great), Ratio(1))
        self.assertEqual(great.over(great), Ratio(1))
        self.assert_bool(great.is_below(great + Ratio(1, 10 ** 300)), True)

    def test_by_name(self):
        half = Ratio(1, 2)
        self.assertEqual(half.over(other=2), Ratio(1, 4))
        self.assert_bool(half.is_below(other=1), True)
        self.assert_bool(half.is_at_most(other=Ratio(1, 2)), True)
        self.assert_bool(half.is_below(other=Ratio(1, 2)), False)
        self.assertEqual(Ratio.total(numbers=(half, 1)), Ratio(3, 2))

    def test_wrong_values_on_the_right(self):
        half = Ratio(1, 2)
        deeds = [lambda x: half + x, lambda x: half - x, lambda x: half * x, half.over, half.is_below, half.is_at_most]
        for value in NOT_NUMBERS:
            for deed in deeds:
                with self.subTest(value=value):
                    self.assert_error(InvalidNumber, {"value": value}, deed, value)

    def test_divided_by_nought(self):
        for value in [0, Ratio(0), Sub(0)]:
            self.assert_error(DividedByZero, {}, Ratio(1, 2).over, value)
        self.assert_error(InvalidNumber, {"value": False}, Ratio(1, 2).over, False)

    def test_nothing_is_changed(self):
        first, second = Ratio(2, 3), Ratio(-1, 6)
        kept = (repr(first), repr(second))
        first + second, first - second, first * second, -first, first.over(second), first.size()
        first += second
        self.assertEqual(first, Ratio(1, 2))
        self.assertEqual((repr(Ratio(2, 3)), repr(second)), kept)

    def test_equal_with_ratios_alone(self):
        self.assert_bool(Ratio(2, 4) == Ratio(1, 2), True)
        self.assert_bool(Ratio(2, 4) != Ratio(1, 2), False)
        self.assert_bool(Ratio(1, 2) == Ratio(-1, 2), False)
        for value in [1, True, "1", None, [Ratio(1)], (1, 1), Fraction(1), object()]:
            self.assert_bool(Ratio(1) == value, False)
            self.assert_bool(value == Ratio(1), False)
            self.assert_bool(Ratio(1) != value, True)

    def test_total(self):
        self.assertEqual(Ratio.total([]), Ratio(0))
        self.assertEqual(Ratio.total(()), Ratio(0))
        self.assertEqual(Ratio.total([1, Ratio(1, 2), Ratio(1, 3), -2]), Ratio(-1, 6))
        self.assertEqual(Ratio(5).total((Ratio(1, 6),) * 6), Ratio(1))
        self.assertIs(Ratio.total([3]).__class__, Ratio)
        numbers = [Ratio(1, k) for k in range(1, 101)]
        self.assertEqual(Ratio.total(numbers), ratio(sum(Fraction(1, k) for k in range(1, 101))))
        self.assertEqual(len(numbers), 100)

    def test_total_refuses(self):
        for value in NOT_LISTS:
            self.assert_error(InvalidNumber, {"value": value}, Ratio.total, value)
        for value in NOT_NUMBERS:
            self.assert_error(InvalidNumber, {"value": value}, Ratio.total, [1, Ratio(1, 2), value, "later"])
            self.assert_error(InvalidNumber, {"value": value}, Ratio.total, (value, True))

    def test_written(self):
        for made, plain, exact in [(Ratio(3, 2), "3/2", "Ratio(3, 2)"), (Ratio(-4, 6), "-2/3", "Ratio(-2, 3)"),
                                   (Ratio(5), "5", "Ratio(5, 1)"), (Ratio(0, -7), "0", "Ratio(0, 1)")]:
            self.assertEqual((str(made), repr(made), f"{made}"), (plain, exact, plain))
            self.assertEqual(eval(repr(made)), made)
