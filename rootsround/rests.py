"""Rests of polynomials, and units of roots, modulo primes."""

from rootsround.basics import is_integer
from rootsround.errors import BottomNought, NotKept, TooMany
from rootsround.modular import half_walk_modulo, norm_modulo, rests_told, unit_modulo
from rootsround.polys import told
from rootsround.primes import is_kept, wanted_prime
from rootsround.roots import wanted_root
from rootsround.walks import size_of
from rootsround.wholes import rests_modulo

MOST_STEPS = 600
MOST_DEGREE = 150
MOST_RESTS = 400


def rests_of(poly, prime):
    """The rests of the polynomial modulo the prime, without noughts at the end."""
    numbers = told(poly)
    wanted_prime(prime)
    if any([number.bottom % prime == 0 for number in numbers]):
        raise BottomNought()
    return rests_told(numbers, prime)


def wanted_kept(root, prime):
    """D of the root, told, which the prime keeps."""
    poly = wanted_root(root).poly()
    if not is_kept(poly, wanted_prime(prime)):
        raise NotKept()
    return poly


def walked(root, prime):
    """The whole parts modulo the prime ahead of the first Q that is a number, from Q1 on."""
    poly = rests_told(wanted_kept(root, prime), prime)
    wholes = half_walk_modulo(rests_told(root.nearest(), prime), poly, prime, MOST_STEPS)
    if wholes is None:
        raise TooMany("steps", MOST_STEPS)
    return wholes


def rest_degree(root, prime):
    """The degree of the first half of the rest unit."""
    return size_of(walked(root, prime))


def rest_unit(root, prime):
    """The unit modulo the prime whose first half has the least degree, its second half with the head 1."""
    wholes = walked(root, prime)
    if size_of(wholes) > MOST_DEGREE:
        raise TooMany("degree", MOST_DEGREE)
    return unit_modulo(wholes, prime)


def is_rests(value):
    """Whether the value is a list of at most 400 INTEGERS."""
    if not isinstance(value, (list, tuple)) or len(value) > MOST_RESTS:
        return False
    return all([is_integer(number) for number in value])


def is_rest_unit(root, prime, value):
    """Whether the value is a tuple of two lists of INTEGERS whose rests are a unit modulo the prime."""
    poly = rests_told(wanted_kept(root, prime), prime)
    if not isinstance(value, tuple) or len(value) != 2 or not is_rests(value[0]) or not is_rests(value[1]):
        return False
    first, second = rests_modulo(value[0], prime), rests_modulo(value[1], prime)
    return len(second) > 0 and len(norm_modulo(poly, first, second, prime)) == 1
