"""A second reckoning of chains, norms and log polynomials, by Fractions and by rests, as the document tells them."""

from fractions import Fraction

from rootsround.ratios import Ratio
from rootsround.roots import Root
from tests.helpers import frac_plus, frac_times, fracs, ratio


def frac_minus(first, second):
    return frac_plus(first, [-number for number in second])


def frac_divided(upper, lower):
    """The quotient and the rest of Fractions' polynomials."""
    rest, quotient = list(upper), [Fraction(0)] * max(0, len(upper) - len(lower) + 1)
    while len(rest) >= len(lower):
        at = len(rest) - len(lower)
        quotient[at] = rest[-1] / lower[-1]
        rest = frac_minus(rest, [Fraction(0)] * at + [quotient[at] * number for number in lower])
    return quotient, rest


def own_norm(root, first, second):
    """first squared less D times second squared, as Fractions."""
    first, second = fracs(first), fracs(second)
    return frac_minus(frac_times(first, first), frac_times(fracs(root.poly()), frac_times(second, second)))


def own_chain(root, many):
    """Tuples (P, Q, whole part) of the first places of the chain, as Fractions."""
    body, near = fracs(root.poly()), fracs(root.nearest())
    lead, below = [], [Fraction(1)]
    found = []
    for _ in range(many):
        whole = frac_divided(frac_plus(lead, near), below)[0]
        found.append((lead, below, whole))
        lead = frac_minus(frac_times(whole, below), lead)
        below, rest = frac_divided(frac_minus(body, frac_times(lead, lead)), below)
        assert rest == []
    return found


def own_part(wholes):
    """The part that whole parts tell, reckoned from the last one up."""
    top, bottom = wholes[-1], [Fraction(1)]
    for whole in reversed(wholes[:-1]):
        top, bottom = frac_plus(frac_times(whole, top), bottom), top
    return top, bottom


def own_least(root, most):
    """The least unit by the chain, with n and c, as a tuple (p, q, n, c) of Fractions; None if its degree is above."""
    places = own_chain(root, most + 2)
    for many in range(1, most + 2):
        top, bottom = own_part([place[2] for place in places[:many]])
        if len(top) - 1 > most:
            return None
        if len(places[many][1]) == 1:
            head = bottom[-1]
            return [one / head for one in top], [one / head for one in bottom], many, places[many][1][0]
    return None


def own_product(root, unit, other):
    """The tuple of p p' + D q q' and p q' + q p', as Fractions."""
    (p, q), (r, s) = [fracs(one) for one in unit], [fracs(one) for one in other]
    first = frac_plus(frac_times(p, r), frac_times(fracs(root.poly()), frac_times(q, s)))
    return first, frac_plus(frac_times(p, s), frac_times(q, r))


def own_slope(poly):
    return [at * number for at, number in enumerate(poly)][1:]


def own_sum(root, poly):
    """S' D + S D' / 2, as Fractions."""
    body, poly = fracs(root.poly()), fracs(poly)
    half = [number / 2 for number in own_slope(body)]
    return frac_plus(frac_times(own_slope(poly), body), frac_times(poly, half))


def rests(poly, prime):
    """The rests of a polynomial of NUMBERS or Fractions."""
    return mod_cut([number.numerator * pow(number.denominator, -1, prime) % prime for number in fracs(
        [ratio(number) if isinstance(number, Fraction) else number for number in poly])])


def mod_cut(numbers):
    numbers = list(numbers)
    while numbers and numbers[-1] == 0:
        numbers.pop()
    return numbers


def mod_sum(first, factor, second, prime):
    """first and factor times second."""
    many = max(len(first), len(second))
    first, second = first + [0] * (many - len(first)), second + [0] * (many - len(second))
    return mod_cut([(a + factor * b) % prime for a, b in zip(first, second)])


def mod_times(first, second, prime):
    if not first or not second:
        return []
    result = [0] * (len(first) + len(second) - 1)
    for i, a in enumerate(first):
        for j, b in enumerate(second):
            result[i + j] = (result[i + j] + a * b) % prime
    return mod_cut(result)


def mod_divided(upper, lower, prime):
    rest, quotient = list(upper), [0] * max(0, len(upper) - len(lower) + 1)
    inverse = pow(lower[-1], -1, prime)
    while len(rest) >= len(lower):
        at = len(rest) - len(lower)
        quotient[at] = rest[-1] * inverse % prime
        rest = mod_sum(rest, -quotient[at], [0] * at + lower, prime)
    return mod_cut(quotient), rest


def mod_common(first, second, prime):
    while second:
        first, second = second, mod_divided(first, second, prime)[1]
    return first


def mod_norm(root, prime, first, second):
    """p p - D q q modulo the prime."""
    body = rests(root.poly(), prime)
    squared = mod_times(body, mod_times(second, second, prime), prime)
    return mod_sum(mod_times(first, first, prime), -1, squared, prime)


def mod_chain(root, prime, most):
    """The whole parts ahead of the first Qn that is a number, from Q1 on; None if it is not among the first most."""
    body, near = rests(root.poly(), prime), rests(root.nearest(), prime)
    lead, below = [], [1]
    wholes = []
    while len(wholes) < most:
        whole = mod_divided(mod_sum(lead, 1, near, prime), below, prime)[0]
        wholes.append(whole)
        lead = mod_sum(mod_times(whole, below, prime), -1, lead, prime)
        below, rest = mod_divided(mod_sum(body, -1, mod_times(lead, lead, prime), prime), below, prime)
        assert rest == []
        if len(below) == 1:
            return wholes
    return None


def mod_degree(root, prime, most=600):
    """The rest degree; None if the chain is longer."""
    wholes = mod_chain(root, prime, most)
    return None if wholes is None else sum(len(whole) - 1 for whole in wholes)


def mod_part(wholes, prime):
    """The part that whole parts tell modulo the prime, from the last one up."""
    top, bottom = wholes[-1], [1]
    for whole in reversed(wholes[:-1]):
        top, bottom = mod_sum(mod_times(whole, top, prime), 1, bottom, prime), top
    return top, bottom


def is_square_free(poly, prime):
    """Whether rests have no square part: no common part with what they are derived."""
    slope = mod_cut([at * number % prime for at, number in enumerate(poly)][1:])
    return len(mod_common(poly, slope, prime)) == 1


def numbers_of(text):
    """The told polynomial of words."""
    return [Ratio(*[int(part) for part in word.split("/")]) for word in text.split()]


# roots that are round: D, the degree N, n and the number c behind which the chain is half round
ROUND = [
    ("-7 0 1", 1, 1, "-7"), ("1 0 1", 1, 1, "1"), ("3 1 1/4", 1, 1, "2"), ("-1/3 5/7 4/9", 1, 1, "-1459/2352"),
    ("1 0 0 0 1", 2, 1, "1"), ("-6 0 -6 0 1", 2, 1, "-15"), ("3 0 0 0 4/25", 2, 1, "3"),
    ("0 1 0 0 1", 3, 2, "1"), ("0 -2 0 0 1", 3, 2, "1"), ("0 -2 9 -6 1", 3, 2, "1"), ("-5 -6 -2 0 1", 3, 2, "1"),
    ("-1 -4 -4 0 4", 4, 3, "-4"), ("-10 16 5 -6 1", 4, 3, "-16"), ("113/16 8 7/2 0 1", 4, 3, "8"),
    ("-1 -2 5 4 4", 5, 4, "1"), ("0 -4 -4 0 1", 5, 4, "1"), ("337/16 24 23/2 0 1", 6, 5, "8"),
    ("1 -4 4 0 4", 6, 5, "1"), ("97/16 16 15/2 0 1", 7, 6, "1"), ("1441/256 12 47/8 0 1", 8, 7, "9/2"),
    ("369/16 48 39/2 0 1", 9, 8, "1"), ("1201/16 96 71/2 0 1", 10, 9, "8"), ("282001/16 1080 119/2 0 1", 10, 9, "-24"),
    ("1307041/16 840 -1009/2 0 1", 12, 11, "24696"),
    ("1 0 0 0 0 0 1", 3, 1, "1"), ("-2 -2 1 -2 2 0 1", 3, 1, "-3"), ("-2 0 -1 0 2 0 1", 4, 2, "1"),
    ("-1 -1 1 0 -2 0 1", 5, 2, "1"), ("-2 3 -1 2 2 0 1", 5, 3, "-4"), ("1 0 -2 0 0 0 1", 6, 4, "1"),
    ("1 0 -4 2 0 0 1", 7, 4, "1"), ("-4 -32 -83 -66 -17 2 1", 7, 5, "-24389/4"), ("0 2 -23/4 7 -2 -2 1", 8, 6, "1"),
    ("1 -2 1 -2 -2 0 1", 9, 5, "-4"), ("4 0 2 4 1/4 -1 1", 9, 5, "1"), ("4 -12 1 8 6 4 1", 9, 7, "-64"),
    ("0 3 1 -6 25/4 -3 1", 10, 8, "1"),
    ("-1 0 0 0 -1 0 0 0 1", 4, 1, "-5/4"), ("1 0 0 0 0 0 0 0 9/4", 4, 1, "1"), ("4 0 4 -2 0 -4 0 0 1", 5, 2, "1"),
    ("0 -1/4 5/4 0 0 -2 0 0 1", 6, 2, "1"), ("0 1 0 0 0 0 0 0 1", 7, 2, "1"), ("0 -1 -2 -2 0 0 0 0 1", 7, 4, "1"),
    ("1 0 3 0 17/4 0 -3 0 1", 8, 3, "9"), ("1 0 1 0 9/4 0 -1 0 1", 8, 3, "1"), ("-1 2 1 -4 1 2 -2 0 1", 8, 4, "1"),
]
# roots that are round, with a degree above that to which the chain is walked for a verdict
FAR_ROUND = [
    ("-7 10 -11 2 2 -8 1", 11, 9, "-6718464/529"), ("1 0 4 -2 4 0 1", 12, 8, "1"), ("1 -4 6 -2 1 -2 1", 19, 13, "4"),
    ("1 4 10 10 5 2 1", 21, 15, "8"), ("1/4 -1 9/2 0 -7/4 1 1", 39, 31, "1/972"),
    ("-8 -20 -15 8 20 10 -8 -4 1", 10, 5, "-68921/4"), ("4 4 1 0 -4 2 0 0 1", 16, 7, "-2"),
    ("1 -4 10 -10 7 2 -1 2 1", 28, 17, "-512"),
]
# roots that never come round
NEVER = ["1 1 0 0 1", "2 1 0 0 1", "1 2 3 4 1", "1/2 1/3 0 0 9/4", "-1 1 1 0 1", "3 1 -2 0 0 0 1", "1 1 1 1 1 1 1",
         "1 1 0 0 1/2 0 4", "-3 2 1 0 1 0 0 0 1", "2 1 0 1 0 0 0 0 25/4"]


def root_of(text):
    """The Root of a D that is written with blanks."""
    return Root(numbers_of(text))


def round_roots(rows=tuple(ROUND)):
    """Tuples (Root, N, n, c)."""
    return [(root_of(text), many, steps, numbers_of(number)[0]) for text, many, steps, number in rows]
