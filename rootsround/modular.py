"""Polynomials of rests modulo a prime, and chains of them.

Such a polynomial is a list of INTEGERS from 0 to the prime less 1 by rising
powers, without a 0 at its end.
"""

from rootsround.wholes import cut, product_of, rests_modulo


def inverse_of(number, prime):
    """The rest that makes 1 if multiplied by the number, which the prime does not divide."""
    upper, lower = prime, number % prime
    behind, own = 0, 1
    # lower is own times the number at each step (Euclid)
    while lower > 1:
        taken = upper // lower
        upper, lower = lower, upper - taken * lower
        behind, own = own, behind - taken * own
    return own % prime


def rests_told(poly, prime):
    """The rests of a told polynomial, none of whose bottoms the prime divides."""
    return cut([number.top * inverse_of(number.bottom, prime) % prime for number in poly])


def joined(first, factor, second, prime):
    """The first polynomial, and the factor times the second one added."""
    many = max(len(first), len(second))
    upper = first + [0] * (many - len(first))
    lower = second + [0] * (many - len(second))
    return cut([(number + factor * other) % prime for number, other in zip(upper, lower)])


def crossed(first, second, prime):
    """The product of both."""
    return rests_modulo(product_of(first, second), prime)


def parted_modulo(upper, lower, prime):
    """The quotient and the rest of the upper one divided by the lower one, not nought."""
    factor = inverse_of(lower[-1], prime)
    rest = list(upper)
    quotient = []
    for at in range(len(upper) - len(lower), -1, -1):
        taken = rest.pop() * factor % prime
        quotient.append(taken)
        for place in range(len(lower) - 1):
            rest[at + place] = (rest[at + place] - taken * lower[place]) % prime
    return quotient[::-1], cut(rest)


def norm_modulo(poly, first, second, prime):
    """first squared less poly times second squared."""
    squared = crossed(poly, crossed(second, second, prime), prime)
    return joined(crossed(first, first, prime), -1, squared, prime)


def stepped_modulo(near, place, prime):
    """A tuple of the whole part at a place (P, Q, the Q ahead of it), and the next place."""
    lead, below, behind = place
    whole, rest = parted_modulo(joined(lead, 1, near, prime), below, prime)
    ahead = joined(near, -1, rest, prime)
    # as over fractions, the next Q is told without a division
    product = crossed(whole, joined(lead, -1, ahead, prime), prime)
    return whole, (ahead, joined(behind, 1, product, prime), below)


def half_walk_modulo(near, poly, prime, most):
    """The whole parts ahead of the first Q, from Q1 on, that is a number; None if none of the first most is."""
    place = [], [1], poly
    wholes = []
    while len(wholes) < most:
        whole, place = stepped_modulo(near, place, prime)
        wholes.append(whole)
        if len(place[1]) == 1:
            return wholes
    return None


def unit_modulo(wholes, prime):
    """Both halves of the last part that the whole parts tell, times the number that makes the second head 1."""
    last, ahead = [[1], []], [[], [1]]
    for whole in wholes:
        last, ahead = [joined(crossed(whole, own, prime), 1, behind, prime)
                       for own, behind in zip(last, ahead)], last
    factor = [inverse_of(last[1][-1], prime)]
    return crossed(factor, last[0], prime), crossed(factor, last[1], prime)
