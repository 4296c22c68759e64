"""Roots that are all real, and the stretches on which their D is not above nought."""

from rootsround.errors import NotReal
from rootsround.plain import bare, worth_at
from rootsround.ratios import ratio_of
from rootsround.roots import wanted_root
from rootsround.signs import bound_of, count_within, fences


def count_to(poly, high):
    """How many roots of a told polynomial without square part are at most the Ratio; None is no bound."""
    numbers = bare(poly)
    most = bound_of(numbers)
    return count_within(numbers, -most, most if high is None else high)


def has_real_roots_alone(root):
    """Whether D of the Root has as many real roots as its degree."""
    return count_to(root.poly(), None) == root.degree


def checked_real(root):
    """Raises NotReal unless the Root is all real."""
    if not has_real_roots_alone(root):
        raise NotReal()


def is_on_stretch(root, place):
    """Whether D is at most 0 at the Ratio."""
    return worth_at(root.poly(), place).sign <= 0


def is_all_real(root):
    """Whether D has as many unlike real roots as its degree."""
    return has_real_roots_alone(wanted_root(root))


def stretch_of(root, number):
    """The position of the stretch on which the number lies; None if it lies on none."""
    wanted_root(root)
    place = ratio_of(number)
    checked_real(root)
    if not is_on_stretch(root, place):
        return None
    # on the first stretch one or two of D's roots are at most the number, on the next one three or four
    return (count_to(root.poly(), place) - 1) // 2


def between(root):
    """A rising list of Ratios, one more than D has roots, just one of these between each two neighbours."""
    checked_real(wanted_root(root))
    return fences(root.poly())
