"""The chain of a root: its whole parts, its States and its parts."""

from rootsround.basics import wanted_many
from rootsround.errors import TooMany
from rootsround.polys import MOST_DEGREE, told
from rootsround.roots import wanted_root
from rootsround.states import first_state
from rootsround.walks import first_wholes, norm_of, parts_of

MOST_STEPS = 16


def quotients(root, many):
    """The first whole parts of the chain, so many."""
    wanted_root(root)
    return first_wholes(root, wanted_many(many, 0, MOST_STEPS))


def states(root, many):
    """The first States of the chain, so many."""
    start = first_state(root)
    found = []
    for _ in range(wanted_many(many, 0, MOST_STEPS)):
        found.append(found[-1].next() if found else start)
    return found


def parts(root, many):
    """The first parts of the root, tuples (p, q), so many."""
    return parts_of(quotients(root, many))


def norm(root, first, second):
    """first squared less D times second squared, both of a degree of at most 60."""
    wanted_root(root)
    upper, lower = told(first), told(second)
    if 2 * max(len(upper) - 1, root.half + len(lower) - 1) > MOST_DEGREE:
        raise TooMany("degree", MOST_DEGREE)
    return norm_of(root, upper, lower)
