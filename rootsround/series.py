"""Roots written out, by falling powers."""

from rootsround.basics import wanted_many
from rootsround.errors import TooMany
from rootsround.plain import trimmed
from rootsround.polys import told
from rootsround.ratios import Ratio
from rootsround.roots import falling, wanted_root

MOST_WRITTEN = 24
MOST_DEGREE = 20


def written(root, many):
    """The first many numbers of the root written out, from that of x ** d down."""
    poly = wanted_root(root).poly()
    return falling(poly, wanted_many(many, 1, MOST_WRITTEN))


def near(root, poly):
    """The polynomial that the root, written out, times poly is but for powers below 0."""
    half = wanted_root(root).half
    numbers = told(poly)
    if len(numbers) - 1 > MOST_DEGREE:
        raise TooMany("degree", MOST_DEGREE)
    series = falling(root.poly(), half + len(numbers))
    result = []
    for power in range(half + len(numbers)):
        # the power x ** at of poly meets the power x ** (half - place) of the root
        met = [(at, at + half - power) for at in range(len(numbers)) if at + half >= power]
        result.append(Ratio.total([numbers[at] * series[place] for at, place in met]))
    return trimmed(result)
