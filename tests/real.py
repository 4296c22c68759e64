"""Roots that are all real, with units, and roots that are not, for the tests."""

from fractions import Fraction

from rootsround.ratios import Ratio
from rootsround.roots import Root
from tests.helpers import frac_plus, frac_times, frac_worth, fracs, ratios
from tests.own import numbers_of, own_product
from tests.test_signs import sturm_count

# p and c for which all roots of p p - c are real and unlike: so D is p p - c, and q is 1
MADE = [("0 1", "2"), ("0 1", "4"), ("1/2 3", "5/3"), ("7 -2", "1/9"), ("-5 0 1", "4"), ("-5 0 1", "2/3"),
        ("1 7 -3", "1"), ("0 -10 0 1", "1"), ("1 -20 0 7", "3/7"), ("0 10 0 -1/3", "1/4"), ("5 0 -10 0 1", "1"),
        ("5 1 -30 2 1", "1/3"), ("5 0 -10 0 1", "4")]
# D, p and q
WITH_INNER = [("0 -2 9 -6 1", "-1 9 -6 1", "-3 1"), ("0 -2 9 -6 1", "-1/2 9/2 -3 1/2", "3/2 -1/2"),
              ("-1 0 1", "-1 0 2", "0 2"), ("0 -1 1", "1 -8 8", "-4 8")]
# all real, most of them not round
REAL_ALONE = ["-15 -1/2 1", "24 -50 35 -10 1", "9 0 -10 0 1", "2 0 -4 0 1", "-36 0 49 0 -14 0 1", "-6 0 11 0 -6 0 1",
              "576 0 -820 0 273 0 -30 0 1", "1 0 -20 0 40 0 -14 0 1", "24 0 -50 0 35 0 -10 0 1"]
NOT_REAL = ["1 0 1", "5 1 1/4", "0 -2 0 0 1", "1 0 0 0 1", "1 0 0 0 0 0 1", "-1 0 0 0 0 0 1", "-4 0 0 0 1",
            "-36 0 -5 0 5 0 1", "0 -4 0 1 0 0 1", "4 0 1 0 -6 0 1", "1 0 0 0 0 0 0 0 1", "0 -1 0 0 0 0 0 0 1",
            "-36 0 13 0 35 0 -13 0 1", "36 0 -49 0 14 0 -14 0 1", "-36 0 13 0 48 0 -14 0 1"]


def own_made(first, number):
    """The Root of p p - c, and the unit (p, 1)."""
    body = frac_plus(frac_times(fracs(first), fracs(first)), [-number])
    return Root(ratios(body)), (ratios(first), [Ratio(1)])


def real_units():
    """Tuples (Root, unit, number of the unit) of all real Roots."""
    found = []
    for text, number in MADE:
        root, unit = own_made(numbers_of(text), Fraction(number))
        found.append((root, unit, Fraction(number)))
    for text, first, second in WITH_INNER:
        root, p, q = Root(numbers_of(text)), numbers_of(first), numbers_of(second)
        body = frac_times(fracs(root.poly()), frac_times(fracs(q), fracs(q)))
        norm = frac_plus(frac_times(fracs(p), fracs(p)), [-one for one in body])
        assert len(norm) == 1
        found.append((root, (p, q), norm[0]))
    return found


def with_powers(most=12, times=4):
    """The same, and powers of the units, contraries and units times numbers among them."""
    found = []
    for at, (root, pair, number) in enumerate(real_units()):
        unit, own = pair, number
        many = 1
        while many <= times and len(unit[0]) - 1 <= most:
            factor = Fraction([1, -1, Fraction(2, 3), -5][(at + many) % 4])
            sign = [1, -1][many % 2]
            told = ratios([factor * one for one in fracs(unit[0])]), ratios(
                [factor * sign * one for one in fracs(unit[1])])
            found.append((root, told, own * factor * factor, many, pair))
            unit = own_product(root, unit, pair)
            own = own * number
            many += 1
    return found


def real_roots():
    """All real Roots, those with units first."""
    return [root for root, _, _ in real_units()] + [Root(numbers_of(text)) for text in REAL_ALONE]


def own_all_real(root):
    return sturm_count(root.poly(), None, None) == root.degree


def own_stretch(root, number):
    """The position of the stretch, by the sign of D and by Sturm's signs."""
    if frac_worth(fracs(root.poly()), number) > 0:
        return None
    return (sturm_count(root.poly(), None, number) - 1) // 2


def samples(root, wide=12):
    """Numbers on stretches, in gaps and beyond both ends, and D's ends among small fractions."""
    body = fracs(root.poly())
    some = [Fraction(k, 3) for k in range(-3 * wide, 3 * wide + 1)]
    some += [Fraction(k, 2) for k in range(-2 * wide, 2 * wide)]
    ends = [one for one in some if frac_worth(body, one) == 0]
    return sorted(set(some[::5] + some[:4] + ends))
