"""Written forms read again."""

from rootsround.errors import InvalidText, LimitError, StateError
from rootsround.numerals import count_in, numbers_in
from rootsround.polys import MOST_NUMBERS
from rootsround.roots import Root
from rootsround.states import MOST_DEGREE, State
from rootsround.texts import MOST_PRIMES, is_counted_prime


def numbers_at(lines, at, head, most):
    """The Ratios, at most so many, on the line at a position, which begins with the word."""
    words = lines[at].split(" ") if at < len(lines) else [""]
    found = numbers_in(words[1:])
    if words[0] != head or found is None or len(found) > most:
        raise InvalidText(at + 1)
    return found


def poly_at(lines, at, head, most):
    """The told polynomial of at most so many numbers on the line at a position."""
    found = numbers_at(lines, at, head, most)
    if found and found[-1].sign == 0:
        raise InvalidText(at + 1)
    return found


def root_at(lines, at, head):
    """The Root whose D stands on the line at a position."""
    poly = poly_at(lines, at, head, MOST_NUMBERS)
    try:
        return Root(poly)
    except StateError:
        raise InvalidText(at + 1) from None


def read_pair(lines):
    """The pair of two lines."""
    return poly_at(lines, 0, "first", MOST_NUMBERS), poly_at(lines, 1, "second", MOST_NUMBERS)


def read_state(lines):
    """The State of three lines."""
    root = root_at(lines, 0, "state")
    # each P that is not too long has a State, with 1 for Q
    first = poly_at(lines, 1, "first", MOST_DEGREE + 1)
    second = poly_at(lines, 2, "second", MOST_DEGREE + 1)
    try:
        return State(root, first, second)
    except (StateError, LimitError):
        raise InvalidText(3) from None


def read_numbers(lines):
    """The list of NUMBERS of a line."""
    found = numbers_at(lines, 0, "numbers", MOST_NUMBERS)
    if not found:
        raise InvalidText(1)
    return found


def prime_at(lines, at):
    """The tuple of a prime and a COUNT on the line at a position."""
    words = lines[at].split(" ") if at < len(lines) else []
    if len(words) != 3 or words[0] != "at":
        raise InvalidText(at + 1)
    found = count_in(words[1]), count_in(words[2])
    if not is_counted_prime(found):
        raise InvalidText(at + 1)
    return found


def read_primes(lines):
    """The list of tuples behind the line of its sort."""
    if lines[0] != "primes":
        raise InvalidText(1)
    last = min(max(len(lines), 2), MOST_PRIMES + 1)
    return [prime_at(lines, at) for at in range(1, last)]


def read_lines(lines):
    """A tuple (sort, value, how many lines it has) of the lines without their line feeds, at least one."""
    head = lines[0].split(" ")[0]
    if head == "poly":
        return head, poly_at(lines, 0, head, MOST_NUMBERS), 1
    if head == "root":
        return head, root_at(lines, 0, head), 1
    if head == "first":
        return "pair", read_pair(lines), 2
    if head == "state":
        return head, read_state(lines), 3
    if head == "numbers":
        return head, read_numbers(lines), 1
    found = read_primes(lines)
    return "primes", found, len(found) + 1


def read(text):
    """A tuple of the sort and the value that has this written form."""
    if not isinstance(text, str):
        raise InvalidText(0)
    lines = text.split("\n")
    # what stands behind the last line feed is no line of a written form
    left = lines.pop()
    if not lines:
        raise InvalidText(1)
    sort, value, many = read_lines(lines)
    if len(lines) > many or left:
        raise InvalidText(many + 1)
    return sort, value
