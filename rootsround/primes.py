"""Primes, and which of them keep a root."""

from rootsround.basics import is_integer, wanted_many
from rootsround.errors import InvalidPrime
from rootsround.plain import cleared
from rootsround.roots import wanted_root
from rootsround.wholes import are_apart_modulo, rests_modulo

BEYOND_PRIMES = 10000
MOST_KEPT = 24


def is_prime(value):
    """Whether the value is an odd prime number below 10,000."""
    if not is_integer(value) or value < 3 or value >= BEYOND_PRIMES or value % 2 == 0:
        return False
    divisor = 3
    while divisor * divisor <= value:
        if value % divisor == 0:
            return False
        divisor += 2
    return True


def wanted_prime(value):
    """The value, which is a prime."""
    if not is_prime(value):
        raise InvalidPrime(value)
    return value


def is_kept(poly, prime):
    """Whether the prime keeps the root of the told polynomial."""
    tops, bottom = cleared(poly)
    if bottom % prime == 0 or tops[-1] % prime == 0:
        return False
    derived_tops = [tops[at] * at for at in range(1, len(tops))]
    # also where it is nought derived, it has a square part just if it has a common part with that
    return are_apart_modulo(rests_modulo(tops, prime), rests_modulo(derived_tops, prime), prime)


def keeps(root, prime):
    """Whether the prime keeps the root."""
    poly = wanted_root(root).poly()
    return is_kept(poly, wanted_prime(prime))


def kept_primes(root, many):
    """The rising list of the first primes that keep the root, so many."""
    poly = wanted_root(root).poly()
    wanted_many(many, 0, MOST_KEPT)
    found = []
    number = 3
    while len(found) < many and number < BEYOND_PRIMES:
        if is_prime(number) and is_kept(poly, number):
            found.append(number)
        number += 2
    return found
