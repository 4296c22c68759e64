"""Claims about roots, their contraries and their papers."""

from rootsround.basics import copied
from rootsround.errors import InvalidClaim
from rootsround.integrals import integral, is_integral, is_why, why_none
from rootsround.moves import alike, is_alike
from rootsround.plain import lessened, multiplied
from rootsround.polys import is_poly, told
from rootsround.primes import is_prime, keeps
from rootsround.ratios import is_number, ratio_of
from rootsround.reals import has_real_roots_alone
from rootsround.roots import Root
from rootsround.sweeps import second_of
from rootsround.units import is_unit, unit_number
from rootsround.verdicts import is_never_paper, is_round, never_paper, round_unit

WORDS = (("round", "never"), ("log", "nolog"), ("unit", "nounit"), ("alike", "unlike"), ("sweeps", "leaves"),
         ("keeps", "spoils"))
# the kinds of the parts behind the words of each line
KINDS = (("root",), ("root", "poly"), ("root", "poly", "poly"), ("root", "root"), ("root", "poly", "number"),
         ("root", "prime"))
MOST_DEGREE = 30


def words():
    """The tuples of the two words of each line."""
    return list(WORDS)


def line_with(word):
    """The position of the line with the word; None if there is none."""
    for at, pair in enumerate(WORDS):
        if word in pair:
            return at
    return None


def is_part(kind, value):
    """Whether the value is a part of a claim of this kind."""
    if kind == "root":
        return isinstance(value, Root)
    if kind == "poly":
        return is_poly(value) and len(told(value)) - 1 <= MOST_DEGREE
    return is_number(value) if kind == "number" else is_prime(value)


def is_claim(value):
    """Whether the value is a claim, true or not."""
    if not isinstance(value, tuple) or len(value) < 1 or not isinstance(value[0], str):
        return False
    line = line_with(value[0])
    if line is None or len(value) != len(KINDS[line]) + 1:
        return False
    return all([is_part(kind, part) for kind, part in zip(KINDS[line], value[1:])])


def parted_claim(claim):
    """A tuple of the first word of the claim's line, whether the claim has this word, and its parts."""
    if not is_claim(claim):
        raise InvalidClaim(claim)
    first, _ = WORDS[line_with(claim[0])]
    return first, claim[0] == first, claim[1:]


def swept_by(root, poly, number):
    """The q, not nought, for which poly poly - number is D q q, the number above 0 and the Root all real; else None."""
    if ratio_of(number).sign <= 0 or not has_real_roots_alone(root):
        return None
    return second_of(root, told(poly), ratio_of(number))


def holds(word, parts):
    """Whether the claim of the first word of a line, with these parts, is true."""
    root = parts[0]
    if word == "round":
        return is_round(root)
    if word == "log":
        return integral(root, parts[1]) is not None
    if word == "unit":
        return is_unit(root, (parts[1], parts[2]))
    if word == "alike":
        return alike(root, parts[1]) is not None
    if word == "sweeps":
        return swept_by(root, parts[1], parts[2]) is not None
    return keeps(root, parts[1])


def is_true(claim):
    """Whether the claim is true."""
    word, is_first, parts = parted_claim(claim)
    return holds(word, parts) == is_first


def contrary(claim):
    """The claim with the other word of its line."""
    _, is_first, parts = parted_claim(claim)
    first, second = WORDS[line_with(claim[0])]
    return tuple([second if is_first else first] + [copied(part) for part in parts])


def paper_of_first(word, parts):
    """A paper of the claim of the first word of a line; None if it is not true, or has none."""
    root = parts[0]
    if word == "round":
        return round_unit(root)
    if word == "log":
        return integral(root, parts[1])
    if word == "unit":
        pair = parts[1], parts[2]
        return unit_number(root, pair) if is_unit(root, pair) else None
    if word == "alike":
        return alike(root, parts[1])
    return swept_by(root, parts[1], parts[2]) if word == "sweeps" else None


def paper_of(claim):
    """A paper of the claim; None if it is not true, or if its kind has none."""
    word, is_first, parts = parted_claim(claim)
    if is_first:
        return paper_of_first(word, parts)
    if word == "round":
        return never_paper(parts[0])
    return why_none(parts[0], parts[1]) if word == "log" else None


def is_unit_paper(root, pair, value):
    """Whether the value is the number of the unit, if the pair is one."""
    return is_number(value) and is_unit(root, pair) and unit_number(root, pair) == ratio_of(value)


def is_sweep_paper(root, poly, number, value):
    """Whether the value is a q, not nought, for which poly poly - number is D q q, if the root can be swept."""
    if not is_poly(value) or not told(value) or ratio_of(number).sign <= 0 or not has_real_roots_alone(root):
        return False
    first, second = told(poly), told(value)
    left = lessened(multiplied(first, first), [ratio_of(number)])
    return left == multiplied(root.poly(), multiplied(second, second))


def is_paper_of_first(word, parts, value):
    """Whether the value is a paper of the claim of the first word of a line."""
    root = parts[0]
    if word == "round":
        return is_unit(root, value)
    if word == "log":
        return is_integral(root, parts[1], value)
    if word == "unit":
        return is_unit_paper(root, (parts[1], parts[2]), value)
    if word == "alike":
        return is_alike(root, parts[1], value)
    return is_sweep_paper(root, parts[1], parts[2], value) if word == "sweeps" else False


def is_paper_of(claim, value):
    """Whether the value is a paper of the claim."""
    word, is_first, parts = parted_claim(claim)
    if is_first:
        return is_paper_of_first(word, parts, value)
    if word == "round":
        return is_never_paper(parts[0], value)
    return is_why(parts[0], parts[1], value) if word == "log" else False
