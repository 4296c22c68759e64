"""The answers of the commands of a desk that are no deeds."""

from rootsround.basics import wanted_many
from rootsround.chains import quotients
from rootsround.numerals import words_of
from rootsround.primes import kept_primes
from rootsround.polys import worth
from rootsround.rests import rest_degree
from rootsround.roots import Root
from rootsround.signs import root_count
from rootsround.units import unit_number
from rootsround.verdicts import round_degree

MOST_WHOLES = 8


def poly_words(poly):
    """The NUMBERS of a told polynomial."""
    return ",".join(words_of(poly)) if poly else "-"


def polys_words(polys):
    """The NUMBERS of several told polynomials."""
    return "; ".join([poly_words(poly) for poly in polys])


def on_show(thing):
    if isinstance(thing, Root):
        return poly_words(thing.poly())
    return poly_words(thing) if isinstance(thing, list) else polys_words(list(thing[1]))


def on_degree(thing):
    if isinstance(thing, Root):
        return str(thing.degree)
    poly = thing if isinstance(thing, list) else thing[1][0]
    return str(len(poly) - 1)


def on_norm(unit):
    root, pair = unit
    return str(unit_number(root, pair))


def on_worth(poly, number):
    return str(worth(poly, number))


def on_reals(poly):
    return str(root_count(poly, None, None))


def on_chain(root, many):
    return polys_words(quotients(root, wanted_many(many, 1, MOST_WHOLES)))


def on_period(root):
    degree = round_degree(root)
    return "never" if degree is None else str(degree)


def on_primes(root, many):
    found = kept_primes(root, many)
    return " ".join([str(prime) for prime in found]) if found else "-"


def on_modulo(root, prime):
    return str(rest_degree(root, prime))


def on_same(thing, other):
    return "yes" if thing == other else "no"


ANSWERS = {
    "show": on_show, "degree": on_degree, "norm": on_norm, "worth": on_worth, "reals": on_reals, "chain": on_chain,
    "period": on_period, "primes": on_primes, "modulo": on_modulo, "same": on_same}


def answer_on(word, values):
    """The answer of the command of this first word, which asks for things that are kept."""
    answer = ANSWERS[word]
    return answer(*values)
