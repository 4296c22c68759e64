"""The written forms of values."""

from rootsround.basics import is_count
from rootsround.errors import InvalidForm, InvalidSort
from rootsround.numerals import words_of
from rootsround.polys import MOST_NUMBERS, is_poly, told
from rootsround.primes import is_prime
from rootsround.ratios import is_number
from rootsround.roots import Root
from rootsround.states import State

SORTS = ("poly", "root", "pair", "state", "numbers", "primes")
MOST_PRIMES = 24
BEYOND_COUNTS = 1000


def is_pair(value):
    """Whether the value is a tuple of two polynomials."""
    return isinstance(value, tuple) and len(value) == 2 and is_poly(value[0]) and is_poly(value[1])


def is_numbers(value):
    """Whether the value is a list of 1 to 61 NUMBERS."""
    if not isinstance(value, (list, tuple)) or len(value) < 1 or len(value) > MOST_NUMBERS:
        return False
    return all([is_number(number) for number in value])


def is_counted_prime(value):
    """Whether the value is a tuple of a prime and a COUNT below 1,000."""
    if not isinstance(value, tuple) or len(value) != 2 or not is_prime(value[0]):
        return False
    return is_count(value[1]) and value[1] < BEYOND_COUNTS


def is_primes(value):
    """Whether the value is a list of 1 to 24 tuples of a prime and a COUNT below 1,000."""
    if not isinstance(value, (list, tuple)) or len(value) < 1 or len(value) > MOST_PRIMES:
        return False
    return all([is_counted_prime(one) for one in value])


def sorts():
    """The words of the sorts."""
    return list(SORTS)


def is_form(sort, value):
    """Whether the value is one of this sort."""
    if not isinstance(sort, str) or sort not in SORTS:
        raise InvalidSort(sort)
    if sort == "poly":
        return is_poly(value)
    if sort == "root":
        return isinstance(value, Root)
    if sort == "pair":
        return is_pair(value)
    if sort == "state":
        return isinstance(value, State)
    return is_numbers(value) if sort == "numbers" else is_primes(value)


def line_of(head, numbers):
    """A line of a word and NUMBERS."""
    return " ".join([head] + words_of(numbers)) + "\n"


def lines_of_pair(pair):
    """The lines of two polynomials."""
    return line_of("first", told(pair[0])) + line_of("second", told(pair[1]))


def written(sort, value):
    """The written form of a value of this sort."""
    if not is_form(sort, value):
        raise InvalidForm(value)
    if sort == "poly":
        return line_of(sort, told(value))
    if sort == "root":
        return line_of(sort, value.poly())
    if sort == "pair":
        return lines_of_pair(value)
    if sort == "state":
        return line_of(sort, value.root().poly()) + lines_of_pair((value.first(), value.second()))
    if sort == "numbers":
        return line_of(sort, value)
    return sort + "\n" + "".join([line_of("at", list(one)) for one in value])
