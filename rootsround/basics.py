"""Which values are INTEGERS, and which are COUNTS."""

from rootsround.errors import InvalidMany


def is_integer(value):
    """Whether the value is an `int` that is not a `bool`."""
    return isinstance(value, int) and not isinstance(value, bool)


def is_count(value):
    """Whether the value is an INTEGER that is at least 0."""
    return is_integer(value) and value >= 0


def wanted_many(value, least, most):
    """The value, which is a COUNT within both bounds."""
    if not is_integer(value) or value < least or value > most:
        raise InvalidMany(value)
    return value
