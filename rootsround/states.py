"""States of chains."""

from rootsround.errors import NoState, NotReduced, TooMany
from rootsround.plain import added, is_multiple, lessened, multiplied, parted, quotient_of
from rootsround.polys import told
from rootsround.roots import wanted_root

MOST_DEGREE = 20


def left_of(root, poly):
    """D less the told polynomial squared."""
    return lessened(root.poly(), multiplied(poly, poly))


class State:
    """A root with two polynomials P and Q, for (P + root) / Q; Q divides D - P P."""

    def __init__(self, root, first, second):
        wanted_root(root)
        lead, below = told(first), told(second)
        if max(len(lead), len(below)) - 1 > MOST_DEGREE:
            raise TooMany("degree", MOST_DEGREE)
        if not below or not is_multiple(left_of(root, lead), below):
            raise NoState()
        ahead = lessened(lead, root.nearest())
        self._root = root
        self._first = lead
        self._second = below
        self._is_reduced = len(ahead) < len(below) <= root.half

    @property
    def is_reduced(self):
        """Whether P - A has a degree below that of Q, and Q one below half that of D."""
        return self._is_reduced

    def root(self):
        """The Root."""
        return self._root

    def first(self):
        """P, told."""
        return list(self._first)

    def second(self):
        """Q, told."""
        return list(self._second)

    def whole(self):
        """The quotient of P + A divided by Q."""
        return quotient_of(added(self._first, self._root.nearest()), self._second)

    def next(self):
        """The next State of the chain."""
        near = self._root.nearest()
        _, rest = parted(added(self._first, near), self._second)
        first = lessened(near, rest)
        return State(self._root, first, quotient_of(left_of(self._root, first), self._second))

    def back(self):
        """The reduced State whose next one this is."""
        if not self._is_reduced:
            raise NotReduced()
        second = quotient_of(left_of(self._root, self._first), self._second)
        whole = quotient_of(added(self._first, self._root.nearest()), second)
        return State(self._root, lessened(multiplied(whole, second), self._first), second)

    def __eq__(self, other):
        return (isinstance(other, State) and self._root == other._root
                and self._first == other._first and self._second == other._second)

    def __repr__(self):
        return f"State({self._root!r}, {self._first!r}, {self._second!r})"


def first_state(root):
    """The State (0, 1), with which the chain of the root begins."""
    return State(wanted_root(root), [], [1])
