"""Polynomials of whole numbers: lists of INTEGERS by rising powers, without a 0 at the end.

The reckoning of the package that grows large is done here, as sums and
products of whole numbers are much cheaper than those of fractions.
"""

from math import gcd

# 2 ** 61 - 1, which is a prime number
GREAT_PRIME = 2305843009213693951


def cut(numbers):
    """The list without the noughts at its end."""
    many = len(numbers)
    while many > 0 and numbers[many - 1] == 0:
        many -= 1
    return numbers[:many]


def power(number, many):
    """The number taken many times."""
    result = 1
    for _ in range(many):
        result = result * number
    return result


def product_of(first, second):
    """The product of two polynomials."""
    if not first or not second:
        return []
    result = [0] * (len(first) + len(second) - 1)
    for at, number in enumerate(first):
        for place, other in enumerate(second):
            result[at + place] += number * other
    return result


def combined(factor, first, second):
    """The first polynomial times the factor, less the second one."""
    many = max(len(first), len(second))
    upper = first + [0] * (many - len(first))
    lower = second + [0] * (many - len(second))
    return cut([factor * number - other for number, other in zip(upper, lower)])


def content(numbers):
    """The greatest number that divides all numbers of a list."""
    shared = 0
    for number in numbers:
        shared = gcd(shared, number)
    return shared


def primitive(numbers):
    """A polynomial that is not nought, divided by its content."""
    shared = content(numbers)
    return [number // shared for number in numbers]


def top_at(numbers, top, bottom):
    """The worth of a polynomial at top / bottom, times the bottom as often as the degree tells."""
    worth = 0
    scale = 1
    for number in numbers[::-1]:
        worth = worth * top + number * scale
        scale = scale * bottom
    return worth


def parted_wholes(upper, lower):
    """A tuple (factor, quotient, rest): factor times upper is quotient times lower, and the rest.

    The factor is above 0, and 1 where the lower one has the content 1 and divides the upper one.
    """
    head = lower[-1]
    rest = list(upper)
    quotient = [0] * max(0, len(upper) - len(lower) + 1)
    factor = 1
    for at in range(len(upper) - len(lower), -1, -1):
        lead = rest.pop()
        shared = gcd(lead, head)
        scale = abs(head) // shared
        taken = lead * scale // head
        if scale > 1:
            factor = factor * scale
            rest = [number * scale for number in rest]
            quotient = [number * scale for number in quotient]
        quotient[at] = taken
        for place in range(len(lower) - 1):
            rest[at + place] -= taken * lower[place]
    return factor, cut(quotient), cut(rest)


def pseudo_parted(upper, lower):
    """A tuple (quotient, rest) of upper times the lower head, taken once more than the degrees differ."""
    head = lower[-1]
    rest = list(upper)
    quotient = []
    for at in range(len(upper) - len(lower), -1, -1):
        lead = rest.pop()
        rest = [number * head for number in rest]
        quotient = [number * head for number in quotient] + [lead]
        for place in range(len(lower) - 1):
            rest[at + place] -= lead * lower[place]
    return quotient[::-1], cut(rest)


def last_rest(upper, lower, upper_share, lower_share):
    """The last rest that is not nought, and its share, of dividing again and again.

    Each rest is the sum of its share times the first upper one, and some
    polynomial times the first lower one, if the shares begin with [1], [].
    The degree of the upper one is at least that of the lower one.
    What is divided by divides all numbers without a rest: the rests are
    subresultants (Knuth, 4.6.1, Algorithm C).
    """
    lead = 1
    height = 1
    while lower:
        gap = len(upper) - len(lower)
        quotient, rest = pseudo_parted(upper, lower)
        factor = power(lower[-1], gap + 1)
        share = combined(factor, upper_share, product_of(quotient, lower_share))
        divisor = lead * power(height, gap)
        lead = lower[-1]
        if gap > 0:
            height = power(lead, gap) // power(height, gap - 1)
        upper, lower = lower, [number // divisor for number in rest]
        upper_share, lower_share = lower_share, [number // divisor for number in share]
    return upper, upper_share


def rests_modulo(numbers, prime):
    """The polynomial modulo the prime."""
    return cut([number % prime for number in numbers])


def rest_modulo(upper, lower, prime):
    """A number, not 0, times the rest of upper divided by lower, modulo the prime."""
    head = lower[-1]
    while len(upper) >= len(lower):
        lead = upper[-1]
        ahead = len(upper) - len(lower)
        shifted = [0] * ahead + lower
        upper = cut([(head * number - lead * other) % prime for number, other in zip(upper, shifted)])
    return upper


def are_apart_modulo(upper, lower, prime):
    """Whether two polynomials of rests, the upper one not nought, have no common part modulo the prime."""
    while lower:
        upper, lower = lower, rest_modulo(upper, lower, prime)
    return len(upper) == 1


def are_apart(first, second):
    """Whether two polynomials have no common part modulo one great prime.

    Then they have none at all, as the prime divides neither head: the
    degree of the common part can only grow modulo a prime. It is a quick
    look that spares most of the long divisions.
    """
    upper = rests_modulo(first, GREAT_PRIME)
    lower = rests_modulo(second, GREAT_PRIME)
    if len(upper) < len(first) or len(lower) < len(second):
        return False
    return are_apart_modulo(upper, lower, GREAT_PRIME)
