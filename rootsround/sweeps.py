"""Which polynomials sweep a root, and that no other one stays as near to nought as half a unit."""

from rootsround.errors import TooMany, UnlikeHeads
from rootsround.plain import bare, cleared, lessened, multiplied, parted, worth_at
from rootsround.polys import told
from rootsround.ratios import Ratio, is_number, ratio_of
from rootsround.reals import checked_real, is_on_stretch
from rootsround.roots import falling, wanted_root
from rootsround.signs import bound_of, changes_between, parted_roots
from rootsround.units import number_of, wanted_unit
from rootsround.wholes import top_at

MOST_DEGREE = 30
# behind so many halvings of all spans it is looked for one that is enough
LOOK = 16


def side_of(poly):
    """The polynomial, its head above 0, whose square is the told one of even degree, its head a square; else None."""
    side = falling(poly, len(poly) // 2 + 1)[::-1]
    return side if multiplied(side, side) == poly else None


def second_of(root, poly, number):
    """The q, not nought, for which the told polynomial squared less the number, not 0, is D q q; None if none is."""
    quotient, rest = parted(lessened(multiplied(poly, poly), [number]), root.poly())
    # the heads of the square and of D are squares, so that of the quotient is one
    return None if rest or not quotient else side_of(quotient)


def is_sweep(root, poly, number):
    """Whether the polynomial sweeps the root for the number."""
    wanted_root(root)
    numbers, wanted = told(poly), ratio_of(number)
    checked_real(root)
    if len(numbers) - 1 > MOST_DEGREE:
        raise TooMany("degree", MOST_DEGREE)
    return wanted.sign > 0 and second_of(root, numbers, wanted) is not None


def wanted_rival(root, unit, poly):
    """Both halves of the unit, told, and the told polynomial, which has the degree and the head of the first half."""
    pair, numbers = wanted_unit(root, unit), told(poly)
    checked_real(root)
    if len(numbers) != len(pair[0]) or numbers[-1] != pair[0][-1]:
        raise UnlikeHeads()
    return pair, numbers


def is_above(root, poly, number, place):
    """Whether the Ratio lies on a stretch, and the told polynomial's square is above the number there."""
    if not is_on_stretch(root, place):
        return False
    reached = worth_at(poly, place)
    return number.is_below(reached * reached)


def sign_at(numbers, place):
    """The sign of a polynomial of whole numbers at the Ratio."""
    return Ratio(top_at(numbers, place.top, place.bottom)).sign


def spans_of(poly):
    """A tuple (numbers, low, high) for each real root of a told polynomial without square part."""
    numbers = bare(poly)
    most = bound_of(numbers)
    return [(numbers, low, high) for low, high in parted_roots(numbers, -most, most)]


def halved(span):
    """The half of a span in which its root lies, the middle of the span being the end that is told first."""
    numbers, one_end, other_end = span
    middle = (one_end + other_end) * Ratio(1, 2)
    sign = sign_at(numbers, middle)
    if sign == 0:
        return numbers, middle, middle
    return numbers, middle, other_end if sign_at(numbers, one_end) == sign else one_end


def has_sign_alone(numbers, span):
    """Whether the polynomial of whole numbers certainly has one sign, not 0, all over the span."""
    low, high = (span[1], span[2]) if span[1].is_below(span[2]) else (span[2], span[1])
    return sign_at(numbers, low) != 0 and changes_between(numbers, low, high) == 0


def is_sure(lead, change, span):
    """Whether the change has the sign of p, the lead, all over a span: so both added are beyond p at its root."""
    if span[1] == span[2] or sign_at(lead, span[1]) != sign_at(change, span[1]):
        return False
    return has_sign_alone(lead, span) and has_sign_alone(change, span)


def greater(root, unit, poly):
    """A Ratio on a stretch at which the polynomial's square is above the unit's number; None if it is p.

    The polynomial's square is above the number at some end of a stretch or
    root of q, by Chebyshev's count: so halving all spans comes to an end.
    """
    pair, numbers = wanted_rival(root, unit, poly)
    if numbers == pair[0]:
        return None
    number = number_of(root, pair)
    lead, change = bare(pair[0]), cleared(lessened(numbers, pair[0]))[0]
    spans = spans_of(root.poly()) + spans_of(pair[1])
    steps = 0
    while True:
        for span in spans:
            if is_above(root, numbers, number, span[1]):
                return span[1]
        spans = [halved(span) for span in spans]
        steps += 1
        if steps % LOOK == 0 and len(spans) > 1:
            sure = [span for span in spans if is_sure(lead, change, span)]
            # one of these is enough: the last one, as at a root of q fewer steps are wanted
            spans = sure[-1:] if sure else spans


def is_greater(root, unit, poly, value):
    """Whether the value is a NUMBER on a stretch at which the polynomial's square is above the unit's number."""
    pair, numbers = wanted_rival(root, unit, poly)
    return is_number(value) and is_above(root, numbers, number_of(root, pair), ratio_of(value))
