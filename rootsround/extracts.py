"""Which NUMBERS are powers of NUMBERS."""

from rootsround.ratios import Ratio
from rootsround.wholes import power


def whole_below(number, many):
    """The greatest COUNT whose power, taken many times, is at most the COUNT."""
    # Newton's way from above: each guess is too great or the one that is looked for
    guess = power(2, number.bit_length() // many + 1)
    while power(guess, many) > number:
        guess = ((many - 1) * guess + number // power(guess, many - 1)) // many
    return guess


def whole_extracted(number, many):
    """The COUNT whose power, taken many times, is the COUNT; None if there is none."""
    found = whole_below(number, many)
    return found if power(found, many) == number else None


def extracted(number, many):
    """The Ratio, not below 0, whose power, taken many times, is the Ratio; None if there is none."""
    if number.sign < 0:
        return None
    top, bottom = whole_extracted(number.top, many), whole_extracted(number.bottom, many)
    if top is None or bottom is None:
        return None
    return Ratio(top, bottom)
