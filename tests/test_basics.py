"""rootsround.basics: INTEGERS and COUNTS."""

from rootsround.basics import is_count, is_integer
from tests.helpers import NOT_INTEGERS, Checks, Sub


class BasicsTest(Checks):
    def test_integers(self):
        for value in [0, 1, -1, 60, 10 ** 50, -10 ** 50, Sub(3), Sub(0)]:
            self.assert_bool(is_integer(value), True)
            self.assert_bool(is_integer(value=value), True)

    def test_counts(self):
        for value in [0, 1, 2, 60, 10 ** 50, Sub(3), Sub(0)]:
            self.assert_bool(is_count(value), True)
            self.assert_bool(is_count(value=value), True)
        for value in [-1, -2, -10 ** 50, Sub(-1)]:
            self.assert_bool(is_count(value), False)

    def test_values_of_other_kinds_are_neither(self):
        for value in NOT_INTEGERS:
            with self.subTest(value=value):
                self.assert_bool(is_integer(value), False)
                self.assert_bool(is_count(value), False)
