"""What the tests share: wrong values, a second reckoning with Fractions, checks of errors."""

import copy
import random
import unittest
from fractions import Fraction

from rootsround.errors import HasSquare
from rootsround.ratios import Ratio
from rootsround.roots import Root

NOT_INTEGERS = [None, True, False, "1", "", b"1", [], [1], (), (1,), {}, {1: 1}, {1}, object(), int, Ratio(1), Ratio(0)]
NOT_NUMBERS = NOT_INTEGERS[:-2] + [Ratio, [Ratio(1)], (Ratio(1), 1)]
NOT_LISTS = [None, True, False, 0, 1, -3, Ratio(1), Ratio(1, 2), "", "12", b"12", {}, {0: 1}, {1, 2}, range(3),
             object(), list, iter([1, 2])]
NOT_POLYS = NOT_LISTS + [
    [True], [False], [1, True], (0, False), [None], ["1"], [1, "x", None], [[1]], [(1,)], ([],), [object()],
    [0] * 62, [1] * 62, (Ratio(1),) * 62, [1] * 100, [Ratio], [1, 2, {}]]


class Sub(int):
    """An `int` that is no `bool`."""


class Checks(unittest.TestCase):
    """A test case that can look at errors with their attributes."""

    def assert_error(self, error, told, function, *args, **more):
        """The call raises just this error, with just these attributes (by identity)."""
        with self.assertRaises(error) as caught:
            function(*args, **more)
        self.assertIs(caught.exception.__class__, error)
        self.assertEqual(set(vars(caught.exception)), set(told))
        for name, value in told.items():
            found = getattr(caught.exception, name)
            if name == "value":
                self.assertIs(found, value)
            else:
                self.assertEqual(found, value)
                self.assertIs(found.__class__, value.__class__)

    def assert_refuses(self, function, good, name, error, wrong):
        """Each wrong value of the parameter is refused, by place and by name."""
        for value in wrong:
            with self.subTest(name=name, value=value):
                given = dict(good)
                given[name] = value
                self.assert_error(error, {"value": value}, function, *given.values())
                self.assert_error(error, {"value": value}, function, **given)

    def assert_sequence(self, function, wrong):
        """With several wrong values at once the first parameter's error is raised.

        wrong: for each parameter a tuple (name, wrong value, error).
        """
        values = {name: value for name, value, _ in wrong}
        name, value, error = wrong[0]
        self.assert_error(error, {"value": value}, function, *values.values())
        self.assert_error(error, {"value": value}, function, **values)
        backwards = {name: values[name] for name in reversed(list(values))}
        self.assert_error(error, {"value": value}, function, **backwards)

    def assert_pure(self, function, *args):
        """Nothing passed is changed, the result is new, and comes again."""
        kept = [copy.deepcopy(value) for value in args]
        result = function(*args)
        spoiled = function(*args)
        self.assertEqual(result, spoiled)
        spoil(spoiled)
        self.assertEqual(list(args), kept)
        self.assertEqual(function(*args), result)
        self.assertEqual(repr(function(*args)), repr(result))
        return result

    def assert_bool(self, value, wanted):
        """The value is just True or just False."""
        self.assertIs(value, wanted)

    def assert_told(self, poly):
        """The value is a list of Ratios without a nought at its end."""
        self.assertIs(poly.__class__, list)
        for number in poly:
            self.assertIs(number.__class__, Ratio)
        if poly:
            self.assertNotEqual(poly[-1], Ratio(0))


def spoil(value):
    """Changes each list in the value."""
    if isinstance(value, list):
        for part in value:
            spoil(part)
        value.append("spoiled")
    if isinstance(value, tuple):
        for part in value:
            spoil(part)


def frac(number):
    """The Fraction of a NUMBER."""
    return Fraction(number.top, number.bottom) if isinstance(number, Ratio) else Fraction(number)


def ratio(number):
    """The Ratio of a Fraction or an int."""
    number = Fraction(number)
    return Ratio(number.numerator, number.denominator)


def fracs(poly):
    """The polynomial as Fractions, without noughts at its end."""
    result = [frac(number) for number in poly]
    while result and result[-1] == 0:
        result.pop()
    return result


def ratios(poly):
    """The told polynomial of Fractions, ints or Ratios."""
    return [ratio(number) for number in fracs(poly)]


def frac_plus(first, second):
    many = max(len(first), len(second))
    first = list(first) + [Fraction(0)] * (many - len(first))
    second = list(second) + [Fraction(0)] * (many - len(second))
    result = [a + b for a, b in zip(first, second)]
    while result and result[-1] == 0:
        result.pop()
    return result


def frac_times(first, second):
    if not first or not second:
        return []
    result = [Fraction(0)] * (len(first) + len(second) - 1)
    for i, a in enumerate(first):
        for j, b in enumerate(second):
            result[i + j] += a * b
    while result and result[-1] == 0:
        result.pop()
    return result


def frac_worth(poly, number):
    return sum((c * number ** k for k, c in enumerate(poly)), Fraction(0))


def some_number(source, most=9, wide=6):
    """An INTEGER or a Ratio, now and then a Ratio with the bottom 1."""
    kind = source.randrange(4)
    top = source.randint(-most, most)
    if kind < 2:
        return top
    if kind == 2:
        return Ratio(top)
    return Ratio(top, source.randint(1, wide))


def some_poly(source, degree, most=9, wide=6):
    """A polynomial of just this degree, perhaps with noughts at its end, a list or a tuple."""
    numbers = [some_number(source, most, wide) for _ in range(degree + 1)]
    if degree >= 0:
        while frac(numbers[-1]) == 0:
            numbers[-1] = some_number(source, most, wide)
    if degree < 50:
        numbers += [source.choice([0, Ratio(0)]) for _ in range(source.randrange(3))]
    return tuple(numbers) if source.randrange(3) == 0 else numbers


def source_of(seed):
    """A sequence of choices that is the same each time."""
    return random.Random(seed)


def some_root(source, degrees=(2, 4, 6, 8)):
    """A Root of one of the degrees."""
    while True:
        poly = [some_number(source) for _ in range(source.choice(degrees))]
        side = ratio(Fraction(source.randint(1, 3), source.randint(1, 2)))
        try:
            return Root(poly + [side * side])
        except HasSquare:
            continue


NOT_ROOTS = [None, True, False, 0, 1, Ratio(1), "root", b"", [], [1, 0, 1], (1, 0, 1), {}, {1}, object(), Root,
             [Root([1, 0, 1])], (Root([1, 0, 1]),)]
