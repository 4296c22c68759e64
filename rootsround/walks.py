"""Chains over fractions, walked step by step, on told polynomials without limits of degrees."""

from rootsround.modular import half_walk_modulo, rests_told
from rootsround.plain import added, grown, lessened, multiplied, parted
from rootsround.primes import is_kept
from rootsround.ratios import Ratio
from rootsround.wholes import GREAT_PRIME


def norm_of(root, first, second):
    """first squared less D times second squared."""
    return lessened(multiplied(first, first), multiplied(root.poly(), multiplied(second, second)))


def begun(root):
    """The place at which the root's chain begins: P, Q and what stands for the Q ahead of it."""
    return [], [Ratio(1)], root.poly()


def stepped(near, place):
    """A tuple of the whole part at a place of a chain, and the next place."""
    lead, below, behind = place
    whole, rest = parted(added(lead, near), below)
    ahead = lessened(near, rest)
    # D less P P is Q times the Q ahead of it: so the next Q is told without a division
    return whole, (ahead, added(behind, multiplied(whole, lessened(lead, ahead))), below)


def first_wholes(root, many):
    """The first whole parts of the root's chain, so many."""
    near, place = root.nearest(), begun(root)
    found = []
    for _ in range(many):
        whole, place = stepped(near, place)
        found.append(whole)
    return found


def next_half(whole, last, ahead):
    """One half of the next part, of those of the last part and the one ahead of it."""
    return added(multiplied(whole, last), ahead)


def parts_of(wholes):
    """The parts, tuples (p, q), that the first whole parts of a chain tell."""
    last, ahead = ([Ratio(1)], []), ([], [Ratio(1)])
    found = []
    for whole in wholes:
        told_part = next_half(whole, last[0], ahead[0]), next_half(whole, last[1], ahead[1])
        last, ahead = told_part, last
        found.append(told_part)
    return found


def is_far(root, most):
    """Whether one great prime shows that no unit of the root has a degree of at most most.

    The least unit of a round root has its degree modulo each odd prime that
    keeps the root. It is a quick look that spares most of the long walks.
    """
    poly = root.poly()
    if not is_kept(poly, GREAT_PRIME):
        return False
    near, body = rests_told(root.nearest(), GREAT_PRIME), rests_told(poly, GREAT_PRIME)
    wholes = half_walk_modulo(near, body, GREAT_PRIME, most)
    return wholes is None or size_of(wholes) > most


def half_walk(root, most):
    """A tuple of the whole parts ahead of the first Q that is a number, from Q1 on, and this number.

    None if no part with a degree of at most most stands ahead of such a Q.
    """
    if is_far(root, most):
        return None
    near, place = root.nearest(), begun(root)
    wholes = []
    reached = root.half
    while reached <= most:
        whole, place = stepped(near, place)
        wholes.append(whole)
        below = place[1]
        if len(below) == 1:
            return wholes, below[0]
        # the next whole part has the degree that Q lacks to d
        reached += root.half - len(below) + 1
    return None


def size_of(wholes):
    """The degree of the first half of the last part."""
    return sum([len(whole) - 1 for whole in wholes])


def unit_of(wholes):
    """The unit that is a number times the last part, the head of its second half being 1."""
    first, second = parts_of(wholes)[-1]
    factor = Ratio(1).over(second[-1])
    return grown(first, factor), grown(second, factor)
