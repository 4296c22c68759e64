"""Roots of polynomials."""

from rootsround.errors import HasSquare, InvalidRoot, NoSquareHead, WrongDegree
from rootsround.extracts import extracted
from rootsround.parts import has_square
from rootsround.plain import lessened, multiplied
from rootsround.polys import told
from rootsround.ratios import Ratio

DEGREES = (2, 4, 6, 8)


def falling(poly, many):
    """The first numbers of the root of a told polynomial, its head a square, written out.

    The sum multiplied by itself is the polynomial: so each number is told
    by the polynomial's and by those ahead of it.
    """
    last = len(poly) - 1
    numbers = [extracted(poly[last], 2)]
    for at in range(1, many):
        wanted = poly[last - at] if at <= last else Ratio(0)
        crossed = Ratio.total([numbers[place] * numbers[at - place] for place in range(1, at)])
        numbers.append((wanted - crossed).over(numbers[0] * 2))
    return numbers


def wanted_root(value):
    """The value, which is a Root."""
    if not isinstance(value, Root):
        raise InvalidRoot(value)
    return value


class Root:
    """The root of a polynomial D that is greater than each number for great x."""

    def __init__(self, poly):
        numbers = told(poly)
        if len(numbers) - 1 not in DEGREES:
            raise WrongDegree()
        if extracted(numbers[-1], 2) is None:
            raise NoSquareHead()
        if has_square(numbers):
            raise HasSquare()
        self._poly = numbers
        self._degree = len(numbers) - 1
        self._half = self._degree // 2
        self._nearest = falling(numbers, self._half + 1)[::-1]
        self._rest = lessened(numbers, multiplied(self._nearest, self._nearest))

    @property
    def degree(self):
        """The degree of D."""
        return self._degree

    @property
    def half(self):
        """Half the degree of D."""
        return self._half

    def poly(self):
        """D, told."""
        return list(self._poly)

    def nearest(self):
        """The polynomial A, its head above 0, for which D - A A has a degree below half that of D."""
        return list(self._nearest)

    def rest(self):
        """D - A A."""
        return list(self._rest)

    def __eq__(self, other):
        return isinstance(other, Root) and self._poly == other._poly

    def __repr__(self):
        return f"Root({self._poly!r})"
