"""Whether the chain of a root ever comes round, told by two primes."""

from rootsround.basics import is_integer
from rootsround.errors import TooMany
from rootsround.primes import is_prime, keeps, kept_primes
from rootsround.rests import rest_degree
from rootsround.roots import wanted_root
from rootsround.walks import half_walk, size_of, unit_of

MOST_PRIMES = 24
# for each degree of D the greatest rest degree up to which the chain is walked over fractions
WALKED = {2: 8, 4: 12, 6: 10, 8: 8}


def other_prime(root, primes, wanted):
    """A tuple of the first of the primes behind the first one with another rest degree, and of this."""
    for prime in primes[1:]:
        found = rest_degree(root, prime)
        if found != wanted:
            return prime, found
    raise TooMany("primes", MOST_PRIMES)


def first_look(root):
    """A tuple of the first primes that keep the root, and the rest degree at the first one."""
    primes = kept_primes(root, MOST_PRIMES)
    return primes, rest_degree(root, primes[0])


def walk_within(root, wanted):
    """The half walk of the root to the rest degree; None if it has none, or the rest degree is too great to look."""
    return half_walk(root, wanted) if wanted <= WALKED[root.degree] else None


def round_wholes(root):
    """The whole parts of the chain to where it is half round; None if it never comes round."""
    primes, wanted = first_look(root)
    if wanted > WALKED[root.degree]:
        other_prime(root, primes, wanted)
    walk = walk_within(root, wanted)
    return None if walk is None else walk[0]


def round_degree(root):
    """The degree of the least unit's first half; None if the root is not round."""
    wholes = round_wholes(root)
    return None if wholes is None else size_of(wholes)


def is_round(root):
    """Whether the root is round."""
    return round_wholes(root) is not None


def round_unit(root):
    """The least unit; None if the root is not round."""
    wholes = round_wholes(root)
    return None if wholes is None else unit_of(wholes)


def never_paper(root):
    """A tuple of two primes, each with its rest degree, and these unlike; None if the root is round."""
    primes, wanted = first_look(root)
    if walk_within(root, wanted) is not None:
        return None
    prime, found = other_prime(root, primes, wanted)
    return primes[0], wanted, prime, found


def is_prime_pair(root, value):
    """Whether the value is a tuple of two unlike primes that keep the root, each with another INTEGER above 0."""
    if not isinstance(value, tuple) or len(value) != 4:
        return False
    prime, own, other, found = value
    if not is_integer(own) or not is_integer(found) or own < 1 or found < 1 or own == found:
        return False
    if not is_prime(prime) or not is_prime(other) or prime == other:
        return False
    return keeps(root, prime) and keeps(root, other)


def is_never_paper(root, value):
    """Whether the value is a never paper of the root."""
    wanted_root(root)
    if not is_prime_pair(root, value):
        return False
    prime, own, other, found = value
    # both chains are walked in any case: one that is too long is an error whatever the other one tells
    degrees = [rest_degree(root, prime), rest_degree(root, other)]
    return degrees == [own, found]
