"""Which polynomials are parts of a chain, and how states come to reduced ones."""

from rootsround.errors import InvalidState, NoughtPoly, TooMany
from rootsround.parts import common_part
from rootsround.plain import quotient_of
from rootsround.polys import told
from rootsround.roots import wanted_root
from rootsround.states import MOST_DEGREE, State
from rootsround.walks import begun, norm_of, parts_of, size_of, stepped


def wholes_to(root, reached):
    """The first whole parts of the root's chain, as many as make a part of this degree."""
    near, place = root.nearest(), begun(root)
    wholes = []
    while size_of(wholes) < reached:
        whole, place = stepped(near, place)
        wholes.append(whole)
    return wholes


def part_of(root, first, second):
    """A tuple (place, factor, sign) of the part that both polynomials are a multiple of; None if of none."""
    wanted_root(root)
    upper, lower = told(first), told(second)
    if not lower:
        raise NoughtPoly()
    if max(len(upper), len(lower)) - 1 > MOST_DEGREE:
        raise TooMany("degree", MOST_DEGREE)
    if len(norm_of(root, upper, lower)) > root.half:
        return None
    # no two parts have one degree, so that of what is no common part tells the place
    wholes = wholes_to(root, len(upper) - len(common_part(upper, lower)))
    p, q = parts_of(wholes)[-1]
    factor = quotient_of(upper, p)
    return len(wholes) - 1, factor, lower[-1].sign * factor[-1].sign * q[-1].sign


def led(state):
    """A tuple of how many steps behind the state the first reduced one stands, and of this State."""
    if not isinstance(state, State):
        raise InvalidState(state)
    steps = 0
    while not state.is_reduced:
        state = state.next()
        steps += 1
    return steps, state
