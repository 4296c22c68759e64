"""Numbers as words of texts and commands."""

from rootsround.ratios import Ratio, ratio_of

# Python itself reads not many more digits at once
MOST_DIGITS = 4000


def count_in(word):
    """The COUNT that the word tells; None if it tells none."""
    if not word.isdigit() or not word.isascii() or len(word) > MOST_DIGITS:
        return None
    return None if len(word) > 1 and word.startswith("0") else int(word)


def integer_in(word):
    """The INTEGER that the word tells; None if it tells none."""
    if not word.startswith("-"):
        return count_in(word)
    size = count_in(word[1:])
    return None if size is None or size == 0 else -size


def number_in(word):
    """The Ratio that the word tells; None if it tells none, or one that is not in lowest terms."""
    upper, stroke, lower = word.partition("/")
    top, bottom = integer_in(upper), count_in(lower) if stroke else 1
    if top is None or bottom is None or (stroke and bottom < 2):
        return None
    found = Ratio(top, bottom)
    return found if found.bottom == bottom else None


def numbers_in(words):
    """The Ratios that the words tell; None if one of them tells none."""
    found = [number_in(word) for word in words]
    return None if any([number is None for number in found]) else found


def words_of(numbers):
    """The words of NUMBERS, by their worth."""
    return [str(ratio_of(number)) for number in numbers]
