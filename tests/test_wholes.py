"""rootsround.wholes: polynomials of whole numbers, which grow no more than they must."""

from rootsround.wholes import (
    combined, content, cut, parted_wholes, power, primitive, product_of, pseudo_parted, top_at)
from tests.helpers import Checks, source_of


def some_whole(source, degree):
    """A polynomial of whole numbers of just this degree."""
    return [source.randint(-9, 9) for _ in range(degree)] + [source.choice([-3, -2, -1, 1, 2, 3])]


class WholesTest(Checks):
    def test_cut_power_content(self):
        self.assertEqual([cut([]), cut([0, 0]), cut([0, 1, 0]), cut([5])], [[], [], [0, 1], [5]])
        self.assertEqual([power(3, 0), power(3, 1), power(-3, 3), power(0, 0)], [1, 3, -27, 1])
        self.assertEqual([content([4, -6, 0]), content([-5]), content([2, 3])], [2, 5, 1])
        self.assertEqual([primitive([4, -6, 0, 2]), primitive([-5]), primitive([2, 3])], [[2, -3, 0, 1], [-1], [2, 3]])

    def test_sums_and_products(self):
        self.assertEqual([product_of([], [1]), product_of([1], []), product_of([], [])], [[], [], []])
        self.assertEqual(product_of([1, 2], [3, 0, -1]), [3, 6, -1, -2])
        self.assertEqual(combined(2, [1, 2], [2, 4]), [])
        self.assertEqual(combined(3, [1], [0, 0, 5]), [3, 0, -5])
        self.assertEqual(combined(3, [1, 1, 1], [0, 0, 3]), [3, 3])
        self.assertEqual([top_at([1, 2, 3], 2, 5), top_at([], 2, 5), top_at([7], 2, 5)], [57, 0, 7])

    def test_parted(self):
        source = source_of(71)
        for _ in range(100):
            upper, lower = some_whole(source, source.randint(0, 8)), some_whole(source, source.randint(0, 5))
            factor, quotient, rest = parted_wholes(upper, lower)
            self.assertGreater(factor, 0)
            self.assertLess(len(rest), len(lower))
            self.assertEqual(combined(factor, upper, product_of(quotient, lower)), rest)
            self.assertEqual((quotient, rest), (cut(quotient), cut(rest)))
            if len(upper) >= len(lower):
                scale = power(lower[-1], len(upper) - len(lower) + 1)
                quotient, rest = pseudo_parted(upper, lower)
                self.assertLess(len(rest), len(lower))
                self.assertEqual(combined(scale, upper, product_of(quotient, lower)), rest)

    def test_parted_without_rest_has_no_factor(self):
        source = source_of(72)
        for _ in range(60):
            first, second = some_whole(source, 5), primitive(some_whole(source, 4))
            self.assertEqual(parted_wholes(product_of(first, second), second), (1, first, []))
