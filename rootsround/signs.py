"""How many real roots a polynomial has, and NUMBERS that part them."""

from math import lcm

from rootsround.errors import InvalidNumber, NoughtPoly
from rootsround.parts import square_free, told_not_nought
from rootsround.plain import bare
from rootsround.polys import told
from rootsround.ratios import Ratio, is_number, ratio_of
from rootsround.wholes import top_at


def shifted(numbers, step):
    """The polynomial of whole numbers with x + step in the place of x."""
    result = list(numbers)
    last = len(result) - 1
    for start in range(last):
        for at in range(last - 1, start - 1, -1):
            result[at] += step * result[at + 1]
    return result


def stretched(numbers, factor):
    """The polynomial of whole numbers with factor times x in the place of x."""
    result = []
    scale = 1
    for number in numbers:
        result.append(number * scale)
        scale = scale * factor
    return result


def sign_changes(numbers):
    """How often neighbouring numbers, those that are 0 left out, have unlike signs."""
    signed = [number for number in numbers if number != 0]
    return len([at for at in range(1, len(signed)) if (signed[at - 1] < 0) != (signed[at] < 0)])


def changes_between(numbers, low, high):
    """At least as many as the roots between both Ratios; if it is 0 or 1, just as many (Descartes).

    With (low + high x) / (1 + x) in the place of x the numbers between low
    and high become those above 0.
    """
    bottom = lcm(low.bottom, high.bottom)
    start = low.top * (bottom // low.bottom)
    width = high.top * (bottom // high.bottom) - start
    over_bottom = stretched(numbers[::-1], bottom)[::-1]
    from_low = stretched(shifted(over_bottom, start), width)
    return sign_changes(shifted(from_low[::-1], 1))


def is_root(numbers, number):
    """Whether the polynomial is 0 at the Ratio."""
    return top_at(numbers, number.top, number.bottom) == 0


def middle_of(numbers, low, high):
    """A Ratio between both that is no root of the polynomial."""
    width = high - low
    part = 2
    middle = low + width.over(part)
    while is_root(numbers, middle):
        part += 1
        middle = low + width.over(part)
    return middle


def parted_roots(numbers, low, high):
    """A rising list of tuples of two Ratios: just one root between both, each root between low and high met.

    The polynomial has no square part, so the halving comes to an end
    (Vincent): between numbers that are near enough the signs change at most once.
    """
    found = []
    waiting = [(low, high)]
    while waiting:
        lower, upper = waiting.pop()
        many = changes_between(numbers, lower, upper)
        if many == 1:
            found.append((lower, upper))
        if many > 1:
            middle = middle_of(numbers, lower, upper)
            waiting.append((middle, upper))
            waiting.append((lower, middle))
    return found


def bound_of(numbers):
    """A Ratio above the sizes of all roots of the polynomial.

    It is a power of 2, so that halving goes on with whole numbers. There, and
    beyond, the power with the head is more than all others together (Cauchy).
    """
    weighed = [-abs(number) for number in numbers[:-1]] + [abs(numbers[-1])]
    bound = 1
    while top_at(weighed, bound, 1) <= 0:
        bound = 2 * bound
    return Ratio(bound)


def count_within(numbers, low, high):
    """How many roots of a polynomial without square part lie above low and at most at high."""
    if not low.is_below(high):
        return 0
    many = len(parted_roots(numbers, low, high))
    return many + 1 if is_root(numbers, high) else many


def root_count(poly, low, high):
    """How many real roots the polynomial has above low and at most at high; None is no bound."""
    given = told(poly)
    for bound in (low, high):
        if bound is not None and not is_number(bound):
            raise InvalidNumber(bound)
    if not given:
        raise NoughtPoly()
    numbers = bare(square_free(given))
    most = bound_of(numbers)
    start = -most if low is None else ratio_of(low)
    end = most if high is None else ratio_of(high)
    return count_within(numbers, start, end)


def fences(poly):
    """A rising list of Ratios, just one real root between each two neighbours."""
    numbers = bare(square_free(told_not_nought(poly)))
    most = bound_of(numbers)
    found = parted_roots(numbers, -most, most)
    if not found:
        return []
    first, _ = found[0]
    return [first] + [upper for _, upper in found]


def is_fences(poly, value):
    """Whether the value is fences of the polynomial."""
    numbers = bare(square_free(told_not_nought(poly)))
    if not isinstance(value, (list, tuple)) or not all([is_number(one) for one in value]):
        return False
    most = bound_of(numbers)
    many = count_within(numbers, -most, most)
    if len(value) != (many + 1 if many > 0 else 0):
        return False
    posts = [ratio_of(one) for one in value]
    if any([is_root(numbers, post) for post in posts]):
        return False
    # a list that does not rise has no root between some two neighbours
    return all([count_within(numbers, posts[at - 1], posts[at]) == 1 for at in range(1, len(posts))])
